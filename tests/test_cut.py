import unittest

from dotpages.dots import do_cut
from tests.helper import (SIDES, TOP, check_answer, check_page, check_refused, check_sizes_refused, edge_dots, frame,
                          grid, picture, plain, sizes, some_grids, words)


def cut(x0, y0, uu, vv, dots):
    return [[dots[r][c] for c in range(x0, x0 + uu)] for r in range(y0, y0 + vv)]


def spans(side):
    """Where a cut begins and how much it takes: one and all, from the first on and as far as it goes, and between."""
    found = {(0, 1), (side - 1, 1), (0, side), (side // 2, 1), (side // 2, side - side // 2), (side // 3, side // 2)}
    return sorted(span for span in found if span[1] >= 1)


class Cut(unittest.TestCase):
    def check(self, expected, numbers, dots):
        with self.subTest(numbers=numbers, w=len(dots[0]), h=len(dots)):
            check_page(self, 0, expected, do_cut, numbers, dots)

    def check_cut(self, x0, y0, uu, vv, dots):
        self.check(cut(x0, y0, uu, vv, dots), [x0, y0, uu, vv], dots)

    def test_written_out(self):
        page = picture("##..#",
                       "#.#..",
                       ".###.",
                       "....#")
        self.check(page, [0, 0, 5, 4], page)
        self.check(picture("#.", "##"), [2, 1, 2, 2], page)
        self.check(picture(".#.", "###"), [1, 1, 3, 2], page)
        self.check(picture("#"), [4, 3, 1, 1], page)
        self.check(picture("#", ".", ".", "#"), [4, 0, 1, 4], page)
        self.check(picture("....#"), [0, 3, 5, 1], page)

    def test_over_the_end_of_a_word(self):
        check_answer(self, [0, 3], do_cut, 31, 0, 2, 1, 33, 1, [2 ** 31, 1])
        check_answer(self, [0, 2], do_cut, 31, 0, 2, 1, 33, 1, [0, 1])
        check_answer(self, [0, 1], do_cut, 31, 0, 2, 1, 34, 1, [2 ** 31, 2])
        check_answer(self, [0, 1], do_cut, 32, 0, 1, 1, 64, 1, [TOP, TOP])
        check_answer(self, [0, TOP, 1], do_cut, 20, 0, 33, 1, 64, 1, [TOP, TOP])
        check_answer(self, [0, 0x56781234], do_cut, 16, 0, 32, 1, 64, 1, [0x1234ABCD, 0xABCD5678])
        check_answer(self, [0, 0x56781234], do_cut, 16, 1, 32, 1, 64, 2, [TOP, TOP, 0x1234ABCD, 0xABCD5678])
        check_answer(self, [0, 2 ** 31 + 1, 1], do_cut, 31, 0, 33, 1, 65, 1, [2 ** 31, 2 ** 30 + 2 ** 31, 1])

    def test_columns_behind_the_cut_are_not_told(self):
        for w in SIDES:
            full = [TOP] * ((w + 31) // 32)
            for uu in {1, w // 2 + 1, w}:
                for x0 in {0, (w - uu) // 2, w - uu}:
                    check_answer(self, [0] + words([[1] * uu]), do_cut, x0, 0, uu, 1, w, 1, full)

    def test_every_cut_of_small_pages(self):
        for w, h in ((1, 1), (4, 3), (6, 2), (2, 6)):
            dots = grid(w, h, w)
            for x0 in range(w):
                for y0 in range(h):
                    for uu in range(1, w - x0 + 1):
                        for vv in range(1, h - y0 + 1):
                            self.check_cut(x0, y0, uu, vv, dots)

    def test_every_cut_of_a_row(self):
        dots = grid(70, 1, 5)
        page = words(dots, 1)
        for x0 in range(70):
            for uu in range(1, 70 - x0 + 1):
                expected = [0] + words([dots[0][x0:x0 + uu]])
                self.assertTrue(do_cut(x0, 0, uu, 1, 70, 1, page) == expected, (x0, uu))

    def test_all_sizes(self):
        for k, (w, h) in enumerate(sizes()):
            dots = grid(w, h, k)
            for x0, uu in spans(w):
                for y0, vv in spans(h):
                    self.check_cut(x0, y0, uu, vv, dots)

    def test_sorts_of_pages(self):
        for w, h in ((2, 2), (31, 5), (33, 32), (66, 7), (130, 9)):
            for dots in some_grids(w, h, w) + [frame(w, h)] + edge_dots(w, h):
                for x0, uu in spans(w):
                    for y0, vv in spans(h):
                        self.check_cut(x0, y0, uu, vv, dots)

    def test_whole_page(self):
        for w, h in sizes():
            for dots in (grid(w, h, w), plain(w, h, 0), plain(w, h, 1), frame(w, h)):
                self.check(dots, [0, 0, w, h], dots)

    def test_all_black_and_all_white(self):
        for w, h in sizes():
            for colour in (0, 1):
                for x0, uu in spans(w)[::2]:
                    for y0, vv in spans(h)[::2]:
                        self.check(plain(uu, vv, colour), [x0, y0, uu, vv], plain(w, h, colour))

    def test_words_in_the_rows(self):
        for uu in (1, 31, 32, 33, 64, 65, 255, 256):
            for vv in (1, 2, 256):
                count = (uu + 31) // 32 * vv
                self.assertEqual(1 + count, len(do_cut(256 - uu, 256 - vv, uu, vv, 256, 256, [TOP] * 2048)))

    def check_refused_both_ways(self, first, count, side, other):
        """The same span of columns, and of rows, of a page whose other side is in order."""
        wide = [TOP] * ((side + 31) // 32 * other)
        high = [TOP] * ((other + 31) // 32 * side)
        with self.subTest(first=first, count=count, side=side, other=other):
            check_refused(self, do_cut, first, 0, count, other, side, other, wide)
            check_refused(self, do_cut, first, other - 1, count, 1, side, other, wide)
            check_refused(self, do_cut, 0, first, other, count, other, side, high)
            check_refused(self, do_cut, other - 1, first, 1, count, other, side, high)

    def test_beyond_the_last_column_or_row(self):
        for side in SIDES:
            for other in (1, 33):
                for count in {1, side // 2 + 1, side}:
                    self.check_refused_both_ways(side - count + 1, count, side, other)
                    self.check_refused_both_ways(side, count, side, other)
                    self.check_refused_both_ways(256, count, side, other)

    def test_nothing_or_too_much(self):
        for side in SIDES:
            for count in (0, side + 1, 257, 2 ** 31, TOP):
                for first in {0, 1, side // 2, side - 1, side}:
                    self.check_refused_both_ways(first, count, side, 2)

    def test_far_beginnings(self):
        for side in SIDES:
            for first in (TOP, TOP - 1, 2 ** 31, TOP - side + 1, TOP - side):
                # Among these counts are those whose sum with the beginning would be small modulo 2 ** 32.
                for count in {0, 1, 2, side, TOP + 1 - first, TOP + 2 - first, TOP}:
                    self.check_refused_both_ways(first, count, side, 3)
            check_refused(self, do_cut, TOP, TOP, 1, 1, side, 1, [TOP] * ((side + 31) // 32))
            check_refused(self, do_cut, TOP, TOP, TOP, TOP, side, 1, [TOP] * ((side + 31) // 32))

    def test_size_out_of_range(self):
        check_sizes_refused(self, do_cut, [0, 0, 1, 1], 1)
        for w, h in ((257, 256), (256, 257), (257, 257), (TOP, 1), (1, TOP), (0, 1), (1, 0)):
            for uu, vv in ((1, 1), (w, h), (min(w, 256), min(h, 256)), (0, 0)):
                check_refused(self, do_cut, 0, 0, uu, vv, w, h, [TOP] * 2400)
                check_refused(self, do_cut, TOP, TOP, uu, vv, w, h, [TOP] * 2400)
                check_refused(self, do_cut, 1, 1, uu, vv, w, h, [TOP] * 2400)


if __name__ == "__main__":
    unittest.main()
