import unittest

from dotpages.dots import do_mirror, do_turn
from tests.helper import (SIDES, TOP, check_answer, check_page, check_refused, check_sizes_refused, edge_dots, frame,
                          grid, picture, plain, sizes, some_grids, words)


def turned(q, dots):
    """Place by place: where each place of the page comes to lie."""
    w, h = len(dots[0]), len(dots)
    answer = plain(h, w, 2) if q % 2 == 1 else plain(w, h, 2)
    for r in range(h):
        for c in range(w):
            to_c, to_r = ((c, r), (h - 1 - r, c), (w - 1 - c, h - 1 - r), (r, w - 1 - c))[q]
            answer[to_r][to_c] = dots[r][c]
    return answer


class Turn(unittest.TestCase):
    def check(self, expected, q, dots):
        with self.subTest(q=q, w=len(dots[0]), h=len(dots)):
            check_page(self, 0, expected, do_turn, [q], dots)

    def test_written_out(self):
        page = picture("##..",
                       "#...",
                       "...#")
        self.check(page, 0, page)
        self.check(picture(".##",
                           "..#",
                           "...",
                           "#.."), 1, page)
        self.check(picture("#...",
                           "...#",
                           "..##"), 2, page)
        self.check(picture("..#",
                           "...",
                           "#..",
                           "##."), 3, page)

    def test_column_of_the_first_row_is_the_last(self):
        for w, h in sizes():
            page = plain(w, h, 0)
            page[0] = [1] * w
            last = [[0] * (h - 1) + [1] for unused in range(w)]
            self.check(last, 1, page)
            self.check([[1] + [0] * (h - 1) for unused in range(w)], 3, page)

    def test_a_row_of_dots_becomes_a_column(self):
        check_answer(self, [0] + [1] * 33, do_turn, 1, 33, 1, [TOP, 1])
        check_answer(self, [0, TOP, 1], do_turn, 1, 1, 33, [1] * 33)
        check_answer(self, [0, TOP, 1], do_turn, 3, 1, 33, [1] * 33)
        check_answer(self, [0, 0, 1], do_turn, 1, 1, 33, [1] + [0] * 32)
        check_answer(self, [0, 1, 0], do_turn, 3, 1, 33, [1] + [0] * 32)
        check_answer(self, [0, 1, 0, 0], do_turn, 1, 3, 1, [1])
        check_answer(self, [0, 0, 0, 1], do_turn, 3, 3, 1, [1])

    def test_words_in_the_turned_rows(self):
        for w, h in sizes():
            page = [TOP] * ((w + 31) // 32 * h)
            for q in range(4):
                count = w * ((h + 31) // 32) if q % 2 == 1 else h * ((w + 31) // 32)
                self.assertEqual(1 + count, len(do_turn(q, w, h, page)))

    def test_all_sizes(self):
        for k, (w, h) in enumerate(sizes()):
            for q in range(4):
                dots = grid(w, h, k + q)
                self.check(turned(q, dots), q, dots)

    def test_wide_and_high(self):
        for w, h in ((40, 3), (3, 40), (100, 31), (31, 100), (256, 1), (1, 256), (66, 34)):
            for dots in some_grids(w, h, w) + [frame(w, h)]:
                for q in range(4):
                    self.check(turned(q, dots), q, dots)

    def test_dots_at_the_edges(self):
        for w, h in ((1, 1), (1, 2), (2, 1), (2, 2), (31, 33), (33, 32), (64, 65), (256, 255)):
            for dots in edge_dots(w, h):
                for q in range(4):
                    self.check(turned(q, dots), q, dots)

    def test_all_black_and_all_white(self):
        for w, h in sizes():
            for colour in (0, 1):
                for q in range(4):
                    answer = plain(h, w, colour) if q % 2 == 1 else plain(w, h, colour)
                    self.check(answer, q, plain(w, h, colour))

    def test_quarters_add_up(self):
        for k, (w, h) in enumerate(sizes()):
            page = words(grid(w, h, k))
            once = do_turn(1, w, h, page)[1:]
            twice = do_turn(1, h, w, once)[1:]
            thrice = do_turn(1, w, h, twice)[1:]
            with self.subTest(w=w, h=h):
                self.assertTrue(do_turn(2, w, h, page)[1:] == twice)
                self.assertTrue(do_turn(3, w, h, page)[1:] == thrice)
                self.assertTrue(do_turn(1, h, w, thrice) == [0] + page)

    def test_quarters_out_of_range(self):
        for q in (4, 5, 8, 2 ** 31, TOP):
            check_refused(self, do_turn, q, 3, 2, [1, 6])
            check_refused(self, do_turn, q, 256, 256, [TOP] * 2048)
            check_refused(self, do_turn, q, 0, 257, [1])

    def test_size_out_of_range(self):
        for q in range(4):
            check_sizes_refused(self, do_turn, [q], 1)


class Mirror(unittest.TestCase):
    def check(self, expected, dots):
        with self.subTest(w=len(dots[0]), h=len(dots)):
            check_page(self, 0, expected, do_mirror, [], dots)

    def test_written_out(self):
        self.check(picture("..##",
                           "...#",
                           "#..."),
                   picture("##..",
                           "#...",
                           "...#"))
        check_answer(self, [0, 0, 1], do_mirror, 33, 1, [1, 0])
        check_answer(self, [0, 1, 0], do_mirror, 33, 1, [0, 1])
        check_answer(self, [0, 1, 0], do_mirror, 33, 1, [0, TOP])
        check_answer(self, [0, 2 ** 31], do_mirror, 32, 1, [1])
        check_answer(self, [0, 2, 2 ** 31], do_mirror, 64, 1, [1, 2 ** 30])

    def test_left_for_right_within_the_width(self):
        for w in SIDES:
            for c in {0, w // 3, w - 1}:
                dot = [[0] * w]
                dot[0][c] = 1
                other = [[0] * w]
                other[0][w - 1 - c] = 1
                self.check(other, dot)

    def test_all_sizes(self):
        for k, (w, h) in enumerate(sizes()):
            for dots in some_grids(w, h, k) + [frame(w, h)]:
                self.check([row[::-1] for row in dots], dots)

    def test_twice_gives_the_page_back(self):
        for k, (w, h) in enumerate(sizes()):
            page = words(grid(w, h, k))
            self.assertTrue(do_mirror(w, h, do_mirror(w, h, page)[1:]) == [0] + page)

    def test_out_of_range(self):
        check_sizes_refused(self, do_mirror, [], 1)


if __name__ == "__main__":
    unittest.main()
