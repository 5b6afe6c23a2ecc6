import itertools
import unittest

from dotpages.dots import do_box
from tests.helper import (TOP, check_answer, check_refused, check_sizes_refused, edge_dots, frame, grid, one_dot,
                          picture, plain, sizes, words)


def expected(dots):
    places = [(c, r) for r, row in enumerate(dots) for c, place in enumerate(row) if place == 1]
    if not places:
        return [-6]
    left, top = min(c for c, r in places), min(r for c, r in places)
    return [0, left, top, max(c for c, r in places) - left + 1, max(r for c, r in places) - top + 1]


class Box(unittest.TestCase):
    def check(self, answer, dots):
        for behind in (0, 1):
            with self.subTest(w=len(dots[0]), h=len(dots), behind=behind):
                check_answer(self, answer, do_box, len(dots[0]), len(dots), words(dots, behind))

    def test_written_out(self):
        self.check([0, 1, 1, 3, 2], picture(".....",
                                            "...#.",
                                            ".#...",
                                            "....."))
        self.check([0, 0, 2, 5, 1], picture(".....",
                                            ".....",
                                            "#...#",
                                            "....."))
        self.check([0, 2, 0, 1, 4], picture("..#..",
                                            ".....",
                                            ".....",
                                            "..#.."))
        self.check([0, 1, 0, 4, 3], picture("..#..",
                                            "....#",
                                            ".#...",
                                            "....."))

    def test_over_the_end_of_a_word(self):
        check_answer(self, [0, 31, 0, 2, 1], do_box, 33, 1, [2 ** 31, 1])
        check_answer(self, [0, 32, 0, 1, 1], do_box, 33, 1, [0, 1])
        check_answer(self, [0, 31, 0, 1, 1], do_box, 33, 1, [2 ** 31, 0])
        check_answer(self, [0, 31, 0, 34, 2], do_box, 65, 2, [0, 0, 1, 2 ** 31, 0, 0])
        check_answer(self, [0, 40, 1, 1, 1], do_box, 96, 3, [0, 0, 0, 0, 256, 0, 0, 0, 0])

    def test_one_dot(self):
        for w, h in sizes():
            for c, r in {(0, 0), (w - 1, 0), (0, h - 1), (w - 1, h - 1), (w // 2, h // 2), (w // 3, h // 5)}:
                self.check([0, c, r, 1, 1], one_dot(w, h, c, r))

    def test_one_dot_at_every_place(self):
        for w, h in ((1, 1), (2, 2), (5, 4), (33, 3), (66, 2), (3, 33)):
            for r in range(h):
                for c in range(w):
                    self.check([0, c, r, 1, 1], one_dot(w, h, c, r))

    def test_all_black(self):
        for w, h in sizes():
            self.check([0, 0, 0, w, h], plain(w, h, 1))
            self.check([0, 0, 0, w, h], frame(w, h))

    def test_no_dot(self):
        for w, h in sizes():
            self.check([-6], plain(w, h, 0))
        check_answer(self, [-6], do_box, 1, 1, [TOP - 1])
        check_answer(self, [-6], do_box, 31, 2, [2 ** 31, 2 ** 31])
        check_answer(self, [-6], do_box, 33, 2, [0, TOP - 1, 0, 2])
        check_answer(self, [-6], do_box, 255, 1, [0] * 7 + [2 ** 31])
        check_answer(self, [0, 254, 0, 1, 1], do_box, 255, 1, [0] * 7 + [3 * 2 ** 30])

    def test_some_of_the_four_edges(self):
        for w, h in ((31, 33), (32, 32), (33, 31), (64, 65), (65, 64), (255, 256), (256, 255)):
            for left, top, right, bottom in itertools.product((0, 3), (0, 5), (0, 4), (0, 2)):
                last_c, last_r = w - 1 - right, h - 1 - bottom
                box = [0, left, top, last_c - left + 1, last_r - top + 1]
                aslant = one_dot(w, h, left, top)
                aslant[last_r][last_c] = 1
                self.check(box, aslant)
                aslant = one_dot(w, h, last_c, top)
                aslant[last_r][left] = 1
                self.check(box, aslant)
                sides = one_dot(w, h, w // 2, top)
                sides[last_r][w // 2 - 1] = sides[h // 2][left] = sides[h // 2 - 1][last_c] = 1
                self.check(box, sides)

    def test_every_small_page(self):
        for w, h in ((1, 1), (3, 3), (4, 2), (2, 4), (9, 1), (1, 9)):
            for number in range(2 ** (w * h)):
                dots = [[number >> (w * r + c) & 1 for c in range(w)] for r in range(h)]
                check_answer(self, expected(dots), do_box, w, h, words(dots, number % 2))

    def test_all_sizes(self):
        for k, (w, h) in enumerate(sizes()):
            for dots in [grid(w, h, k), grid(w, h, k, black=1)] + edge_dots(w, h)[:3]:
                self.check(expected(dots), dots)

    def test_dots_in_a_part(self):
        for w, h in ((31, 40), (33, 64), (65, 65), (100, 33), (256, 256)):
            for seed in range(12):
                left, top = w * seed // 13, h * (seed * 5 % 13) // 13
                wide, high = 1 + (w - left - 1) * (seed % 4) // 3, 1 + (h - top - 1) * (seed % 5) // 4
                inner = grid(w, h, seed, black=200)
                dots = [[inner[r][c] if left <= c < left + wide and top <= r < top + high else 0 for c in range(w)]
                        for r in range(h)]
                self.check(expected(dots), dots)

    def test_out_of_range(self):
        check_sizes_refused(self, do_box, [], 1, white=-6)

    def test_out_of_range_goes_ahead_of_no_dot(self):
        for w, h in ((0, 0), (0, 1), (1, 0), (257, 1), (1, 257), (257, 257), (TOP, TOP), (TOP, 1), (1, TOP)):
            for count in (1, 9, 256, 257, 2400):
                check_refused(self, do_box, w, h, [0] * count)


if __name__ == "__main__":
    unittest.main()
