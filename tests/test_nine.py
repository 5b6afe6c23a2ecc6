import unittest

from dotpages.dots import do_fit, do_keep
from tests.helper import (TOP, at, check_page, check_refused, check_sizes_refused, edge_dots, frame, grid,
                          picture, plain, sizes, some_grids, words)

# Number by number: columns to the right, rows down.
NINE = ((-1, -1), (0, -1), (1, -1), (-1, 0), (0, 0), (1, 0), (-1, 1), (0, 1), (1, 1))
PATTERNS = ((0, 0), (511, 0), (0, 511), (511, 511), (16, 0), (0, 16), (16, 495), (495, 16), (170, 0), (40, 130),
            (273, 68), (7, 448), (73, 292))


def fits(black, white, dots, c, r):
    for k, (right, down) in enumerate(NINE):
        place = at(dots, c + right, r + down)
        if black // 2 ** k % 2 == 1 and place == 0 or white // 2 ** k % 2 == 1 and place == 1:
            return 0
    return 1


def fitting(black, white, dots):
    return [[fits(black, white, dots, c, r) for c in range(len(dots[0]))] for r in range(len(dots))]


def around(dots, c, r):
    return sum(at(dots, c + right, r + down) for right, down in NINE if (right, down) != (0, 0))


def kept(k, dots):
    return [[1 if place == 1 and around(dots, c, r) >= k else 0 for c, place in enumerate(row)]
            for r, row in enumerate(dots)]


def small_pages():
    """Every page of three by three."""
    return [[[number >> (3 * r + c) & 1 for c in range(3)] for r in range(3)] for number in range(512)]


class Fit(unittest.TestCase):
    def check(self, expected, black, white, dots):
        with self.subTest(black=black, white=white, w=len(dots[0]), h=len(dots)):
            check_page(self, 0, expected, do_fit, [black, white], dots)

    def check_fit(self, black, white, dots):
        self.check(fitting(black, white, dots), black, white, dots)

    def test_written_out(self):
        page = picture("##..#",
                       "##...",
                       "....#")
        self.check(picture(".....", ".##..", ".##.."), 1, 0, page)
        self.check(picture("#....", "#....", "....."), 16 + 32, 0, page)
        self.check(picture(".#..#", ".#...", "....#"), 16, 32, page)
        self.check(picture("....#", ".....", "....#"), 16, 495, page)
        self.check(picture("#....", ".....", "....."), 16 + 32 + 128 + 256, 1 + 2 + 4 + 8 + 64, page)
        self.check(picture(".....", "...#.", "....."), 4 + 256, 2 + 8 + 16 + 32 + 128, page)

    def test_each_bit_by_itself(self):
        dot = picture("...", ".#.", "...")
        hole = picture("###", "#.#", "###")
        for k, (right, down) in enumerate(NINE):
            seen = plain(3, 3, 0)
            seen[1 - down][1 - right] = 1
            self.check(seen, 2 ** k, 0, dot)
            self.check([[1 - place for place in row] for row in seen], 0, 2 ** k, dot)
            beyond = [[0 if 0 <= c + right < 3 and 0 <= r + down < 3 else 1 for c in range(3)] for r in range(3)]
            beyond[1 - down][1 - right] = 1
            self.check(beyond, 0, 2 ** k, hole)
            for w, h in ((1, 1), (2, 33), (65, 3), (33, 32)):
                for dots in some_grids(w, h, k):
                    self.check_fit(2 ** k, 0, dots)
                    self.check_fit(0, 2 ** k, dots)

    def test_same_bit_in_both_fits_nowhere(self):
        for k in range(9):
            for w, h in ((1, 1), (3, 3), (33, 4)):
                for dots in some_grids(w, h, k):
                    self.check(plain(w, h, 0), 2 ** k, 2 ** k, dots)
                    self.check(plain(w, h, 0), 511, 2 ** k, dots)
                    self.check(plain(w, h, 0), 2 ** k, 511, dots)

    def test_nothing_asked_fits_everywhere(self):
        for w, h in sizes():
            self.check(plain(w, h, 1), 0, 0, plain(w, h, 0))
            self.check(plain(w, h, 1), 0, 0, plain(w, h, 1))
            self.check(plain(w, h, 1), 0, 0, grid(w, h, w + h))

    def test_all_black_and_all_white(self):
        for w, h in sizes():
            within = [[1 - place for place in row] for row in frame(w, h)]
            self.check(within, 511, 0, plain(w, h, 1))
            self.check(plain(w, h, 0), 0, 511, plain(w, h, 1))
            self.check(plain(w, h, 0), 511, 511, plain(w, h, 1))
            self.check(plain(w, h, 1), 0, 511, plain(w, h, 0))
            self.check(plain(w, h, 0), 511, 0, plain(w, h, 0))
            self.check(plain(w, h, 1), 0, 495, plain(w, h, 0))

    def test_every_pattern_fits_its_own_page(self):
        for number, dots in enumerate(small_pages()):
            self.check_fit(number, 511 - number, dots)
            self.assertEqual(2, do_fit(number, 511 - number, 3, 3, words(dots))[2] & 2)

    def test_every_small_page(self):
        for number, dots in enumerate(small_pages()):
            self.check_fit(*PATTERNS[number % len(PATTERNS)], dots)
            self.check_fit(number, 0, dots)
            self.check_fit(0, 511 - number, dots)

    def test_all_sizes(self):
        for k, (w, h) in enumerate(sizes()):
            for dots in (grid(w, h, k), grid(w, h, k, black=24), grid(w, h, k, black=232), frame(w, h)):
                self.check_fit(*PATTERNS[k % len(PATTERNS)], dots)

    def test_dots_at_the_edges(self):
        for w, h in ((1, 1), (1, 2), (2, 1), (2, 2), (31, 3), (32, 2), (33, 3), (64, 2), (65, 5), (3, 65)):
            for dots in edge_dots(w, h) + [frame(w, h)]:
                for black, white in PATTERNS:
                    self.check_fit(black, white, dots)

    def test_far_edges_of_large_pages(self):
        for dots in edge_dots(256, 255):
            for black, white in ((16, 495), (1, 0), (4, 0), (64, 0), (256, 0)):
                self.check_fit(black, white, dots)

    def test_pattern_out_of_range(self):
        for wrong in (512, 513, 1023, 2 ** 31, TOP):
            for right in (0, 16, 511, wrong):
                check_refused(self, do_fit, wrong, right, 3, 2, [1, 6])
                check_refused(self, do_fit, right, wrong, 3, 2, [1, 6])
        check_refused(self, do_fit, 512, 512, 0, 257, [1])

    def test_size_out_of_range(self):
        for black, white in ((0, 0), (511, 511), (16, 495)):
            check_sizes_refused(self, do_fit, [black, white], 1)


class Keep(unittest.TestCase):
    def check(self, expected, k, dots):
        with self.subTest(k=k, w=len(dots[0]), h=len(dots)):
            check_page(self, 0, expected, do_keep, [k], dots)

    def check_keep(self, k, dots):
        self.check(kept(k, dots), k, dots)

    def test_written_out(self):
        page = picture("#..##",
                       "...##",
                       "##..#")
        self.check(page, 0, page)
        self.check(picture("...##", "...##", "##..#"), 1, page)
        self.check(picture("...##", "...##", "....#"), 2, page)
        self.check(picture("...##", "...##", "....."), 3, page)
        self.check(picture(".....", "...##", "....."), 4, page)
        self.check(plain(5, 3, 0), 5, page)

    def test_the_place_itself_is_not_counted(self):
        self.check([[1]], 0, [[1]])
        self.check([[0]], 1, [[1]])
        full = picture("###", "###", "###")
        self.check(picture("...", ".#.", "..."), 8, full)
        self.check(plain(3, 3, 0), 9, full)
        self.check(full, 3, full)
        self.check(picture(".#.", "###", ".#."), 4, full)

    def test_a_white_place_stays_white(self):
        hole = picture("###", "#.#", "###")
        for k in range(10):
            self.check_keep(k, hole)
            self.assertEqual(0, do_keep(k, 3, 3, words(hole))[2] & 2)

    def test_each_of_the_eight_counts_once(self):
        for right, down in NINE:
            dots = picture("...", ".#.", "...")
            dots[1 + down][1 + right] = 1
            alone = (right, down) == (0, 0)
            self.check(plain(3, 3, 0) if alone else dots, 1, dots)
            self.check(plain(3, 3, 0), 2, dots)

    def test_every_small_page(self):
        for number, dots in enumerate(small_pages()):
            for k in (number % 10, 8 - number % 3, number % 4):
                self.check_keep(k, dots)

    def test_every_k(self):
        for w, h in ((1, 1), (2, 2), (33, 5), (5, 33), (64, 9)):
            for dots in some_grids(w, h, w):
                for k in range(10):
                    self.check_keep(k, dots)

    def test_all_sizes(self):
        for i, (w, h) in enumerate(sizes()):
            for dots in (grid(w, h, i), grid(w, h, i, black=220)):
                self.check_keep(1 + i % 8, dots)
            self.check(grid(w, h, i), 0, grid(w, h, i))
            self.check(plain(w, h, 0), 9, grid(w, h, i, black=250))

    def test_all_black_and_all_white(self):
        for w, h in sizes():
            within = [[1 - place for place in row] for row in frame(w, h)]
            self.check(plain(w, h, 1), 0, plain(w, h, 1))
            self.check(within, 8, plain(w, h, 1))
            self.check(plain(w, h, 0), 9, plain(w, h, 1))
            self.check_keep(1, plain(w, h, 1))
            for k in (0, 1, 8, 9):
                self.check(plain(w, h, 0), k, plain(w, h, 0))

    def test_dots_at_the_edges(self):
        for w, h in sizes():
            if w * h < 9000:
                for dots in edge_dots(w, h):
                    self.check(dots, 0, dots)
                    self.check(plain(w, h, 0), 1, dots)
                for k in (1, 2, 3, 4, 5):
                    self.check_keep(k, frame(w, h))

    def test_k_out_of_range(self):
        for k in (10, 11, 16, 255, 2 ** 31, TOP):
            check_refused(self, do_keep, k, 3, 2, [1, 6])
            check_refused(self, do_keep, k, 256, 256, [TOP] * 2048)
            check_refused(self, do_keep, k, 0, 257, [1])

    def test_size_out_of_range(self):
        for k in (0, 1, 8, 9):
            check_sizes_refused(self, do_keep, [k], 1)


if __name__ == "__main__":
    unittest.main()
