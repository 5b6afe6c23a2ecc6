import unittest

from dotpages.dots import do_double, do_half
from tests.helper import (SIDES, TOP, check_answer, check_page, check_sizes_refused, edge_dots, frame, grid, one_dot,
                          picture, plain, sizes, some_grids, words)


def doubled(dots):
    """Place by place: the four that each place of the page becomes."""
    answer = plain(2 * len(dots[0]), 2 * len(dots), 2)
    for r, row in enumerate(dots):
        for c, place in enumerate(row):
            for to_c, to_r in ((2 * c, 2 * r), (2 * c + 1, 2 * r), (2 * c, 2 * r + 1), (2 * c + 1, 2 * r + 1)):
                answer[to_r][to_c] = place
    return answer


class Double(unittest.TestCase):
    def check(self, expected, dots):
        with self.subTest(w=len(dots[0]), h=len(dots)):
            check_page(self, 0, expected, do_double, [], dots)

    def test_written_out(self):
        self.check(picture("##....##",
                           "##....##",
                           "..####..",
                           "..####.."),
                   picture("#..#",
                           ".##."))
        check_answer(self, [0, 3, 3], do_double, 1, 1, [1])
        check_answer(self, [0, 3, 3], do_double, 1, 1, [TOP])
        check_answer(self, [0, 0, 0], do_double, 1, 1, [0])
        check_answer(self, [0, 0, 0], do_double, 1, 1, [TOP - 1])
        check_answer(self, [0, 60, 60, 3, 3], do_double, 3, 2, [6, 1])

    def test_over_the_end_of_a_word(self):
        check_answer(self, [0] + [3 * 2 ** 30, 0] * 2, do_double, 17, 1, [2 ** 15])
        check_answer(self, [0] + [0, 3] * 2, do_double, 17, 1, [2 ** 16])
        check_answer(self, [0] + [0, 3] * 2, do_double, 32, 1, [2 ** 16])
        check_answer(self, [0] + [0, 3 * 2 ** 30] * 2, do_double, 32, 1, [2 ** 31])
        check_answer(self, [0] + [0, 0, 3] * 2, do_double, 33, 1, [0, 1])
        check_answer(self, [0] + [TOP] * 2, do_double, 16, 1, [TOP])

    def test_each_place_becomes_four(self):
        for w, h in ((1, 1), (5, 3), (17, 2), (33, 3), (2, 33)):
            for r in range(h):
                for c in range(w):
                    dots = one_dot(w, h, c, r)
                    self.check(doubled(dots), dots)
                    self.assertEqual(4, sum(number.bit_count() for number in do_double(w, h, words(dots))[1:]))

    def test_words_in_the_rows(self):
        for w, h in sizes():
            count = (2 * w + 31) // 32 * (2 * h)
            self.assertEqual(1 + count, len(do_double(w, h, [TOP] * ((w + 31) // 32 * h))))
        self.assertTrue(do_double(256, 256, [TOP] * 2048) == [0] + [TOP] * 8192)
        self.assertTrue(do_double(256, 256, [0] * 2048) == [0] * 8193)

    def test_all_sizes(self):
        for k, (w, h) in enumerate(sizes()):
            for dots in (grid(w, h, k), frame(w, h)):
                self.check(doubled(dots), dots)

    def test_sorts_of_pages(self):
        for w, h in ((1, 1), (2, 2), (15, 4), (16, 4), (17, 4), (31, 5), (33, 32), (130, 9), (9, 130)):
            for dots in some_grids(w, h, w) + edge_dots(w, h):
                self.check(doubled(dots), dots)

    def test_dots_at_the_edges_of_large_pages(self):
        for w, h in ((256, 255), (255, 256), (256, 256)):
            for dots in edge_dots(w, h):
                self.check(doubled(dots), dots)

    def test_all_black_and_all_white(self):
        for w, h in sizes():
            for colour in (0, 1):
                self.check(plain(2 * w, 2 * h, colour), plain(w, h, colour))

    def test_halved_it_is_the_page_again(self):
        for side in SIDES[:7]:
            for k in (1, 2, 3, 4):
                w, h = side, 128 - side
                page = words(grid(w, h, side))
                self.assertTrue(do_half(k, 2 * w, 2 * h, do_double(w, h, page)[1:]) == [0] + page)

    def test_out_of_range(self):
        check_sizes_refused(self, do_double, [], 1)


if __name__ == "__main__":
    unittest.main()
