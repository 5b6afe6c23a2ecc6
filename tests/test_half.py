import unittest

from dotpages.dots import do_half
from tests.helper import (SIDES, TOP, check_answer, check_page, check_refused, check_sizes_refused, edge_dots, frame,
                          grid, picture, plain, sizes, some_grids, words)


def halved(k, dots):
    w, h = len(dots[0]), len(dots)
    return [[1 if dots[2 * r][2 * c] + dots[2 * r][2 * c + 1] + dots[2 * r + 1][2 * c] + dots[2 * r + 1][2 * c + 1] >= k
             else 0 for c in range(w // 2)] for r in range(h // 2)]


class Half(unittest.TestCase):
    def check(self, expected, k, dots):
        with self.subTest(k=k, w=len(dots[0]), h=len(dots)):
            check_page(self, 0, expected, do_half, [k], dots)

    def test_written_out(self):
        page = picture("..#.#.###.",
                       "......#..#",
                       "##.###..##",
                       "###.##....")
        self.check(picture(".####", "###.#"), 1, page)
        self.check(picture("...##", "###.#"), 2, page)
        self.check(picture("...#.", "#.#.."), 3, page)
        self.check(picture(".....", "#.#.."), 4, page)

    def test_every_four(self):
        for number in range(16):
            dots = [[number & 1, number >> 1 & 1], [number >> 2 & 1, number >> 3 & 1]]
            count = sum(dots[0]) + sum(dots[1])
            for k in (1, 2, 3, 4):
                check_answer(self, [0, 1 if count >= k else 0], do_half, k, 2, 2, words(dots))
                check_answer(self, [0, 1 if count >= k else 0], do_half, k, 2, 2, words(dots, 1))

    def test_what_is_over_is_left_out(self):
        page = picture("..#",
                       "..#",
                       "###")
        for k in (1, 2, 3, 4):
            self.check([[0]], k, page)
            self.check([[1]], k, picture("##.", "##.", "..."))
        for w, h in ((31, 33), (33, 31), (65, 255), (255, 65), (3, 64), (64, 3)):
            over = [[1 if c >= w // 2 * 2 or r >= h // 2 * 2 else 0 for c in range(w)] for r in range(h)]
            for k in (1, 2, 3, 4):
                self.check(plain(w // 2, h // 2, 0), k, over)
                self.check(plain(w // 2, h // 2, 1), k, [[1 - place for place in row] for row in over])

    def test_nothing_left_of_one_column_or_one_row(self):
        for side in SIDES:
            for k in (1, 2, 3, 4):
                for colour in (0, 1):
                    check_answer(self, [0], do_half, k, 1, side, [colour] * side)
                    check_answer(self, [0], do_half, k, side, 1, [colour * TOP] * ((side + 31) // 32))

    def test_words_in_the_rows(self):
        for w, h in sizes():
            page = [TOP] * ((w + 31) // 32 * h)
            count = (w // 2 + 31) // 32 * (h // 2)
            for k in (1, 2, 3, 4):
                self.assertEqual(1 + count, len(do_half(k, w, h, page)))
        check_answer(self, [0, TOP], do_half, 4, 64, 2, [TOP] * 4)
        check_answer(self, [0, TOP], do_half, 4, 65, 2, [TOP] * 6)
        check_answer(self, [0, TOP, 1], do_half, 4, 66, 2, [TOP] * 6)
        check_answer(self, [0, 0, 1], do_half, 1, 66, 2, [0, 0, 0, 0, 0, 2])
        check_answer(self, [0, 2 ** 31, 0], do_half, 1, 66, 2, [0, 0, 0, 0, 2 ** 31, 0])

    def test_all_sizes(self):
        for i, (w, h) in enumerate(sizes()):
            for k in (1, 2, 3, 4):
                dots = grid(w, h, i + k, black=(60, 110, 150, 210)[k - 1])
                self.check(halved(k, dots), k, dots)

    def test_every_k(self):
        for w, h in ((2, 2), (5, 4), (33, 32), (66, 7), (130, 9)):
            for dots in some_grids(w, h, w) + [frame(w, h)] + edge_dots(w, h):
                for k in (1, 2, 3, 4):
                    self.check(halved(k, dots), k, dots)

    def test_all_black_and_all_white(self):
        for w, h in sizes():
            for k in (1, 2, 3, 4):
                self.check(plain(w // 2, h // 2, 1), k, plain(w, h, 1))
                self.check(plain(w // 2, h // 2, 0), k, plain(w, h, 0))

    def test_k_out_of_range(self):
        for k in (0, 5, 6, 2 ** 31, TOP):
            check_refused(self, do_half, k, 3, 2, [1, 6])
            check_refused(self, do_half, k, 1, 1, [1])
            check_refused(self, do_half, k, 256, 256, [TOP] * 2048)
            check_refused(self, do_half, k, 0, 257, [1])

    def test_size_out_of_range(self):
        for k in (1, 2, 3, 4):
            check_sizes_refused(self, do_half, [k], 1)


if __name__ == "__main__":
    unittest.main()
