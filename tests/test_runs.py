import itertools
import unittest

from dotpages.dots import do_runs
from tests.helper import (SIDES, TOP, check_answer, check_refused, check_sizes_refused, grid, noise, picture, plain,
                          sizes, words)


def expected(row):
    begins, lengths = [], []
    places = list(enumerate(row))
    for colour, run in itertools.groupby(places, key=lambda place: place[1]):
        run = list(run)
        if colour == 1:
            begins.append(run[0][0])
            lengths.append(len(run))
    return [len(begins), len(begins)] + begins + [len(begins)] + lengths


class Runs(unittest.TestCase):
    def check(self, answer, r, dots):
        for behind in (0, 1):
            with self.subTest(r=r, w=len(dots[0]), h=len(dots), behind=behind):
                check_answer(self, answer, do_runs, r, len(dots[0]), len(dots), words(dots, behind))

    def test_written_out(self):
        page = picture("##..###.#",
                       ".........",
                       "#########",
                       ".#.#.#.#.")
        self.check([3, 3, 0, 4, 8, 3, 2, 3, 1], 0, page)
        self.check([0, 0, 0], 1, page)
        self.check([1, 1, 0, 1, 9], 2, page)
        self.check([4, 4, 1, 3, 5, 7, 4, 1, 1, 1, 1], 3, page)

    def test_one_place(self):
        self.check([1, 1, 0, 1, 1], 0, [[1]])
        self.check([0, 0, 0], 0, [[0]])

    def test_over_the_end_of_a_word(self):
        check_answer(self, [1, 1, 31, 1, 2], do_runs, 0, 33, 1, [2 ** 31, 1])
        check_answer(self, [1, 1, 31, 1, 2], do_runs, 0, 34, 1, [2 ** 31, 1])
        check_answer(self, [1, 1, 31, 1, 1], do_runs, 0, 33, 1, [2 ** 31, 0])
        check_answer(self, [1, 1, 32, 1, 1], do_runs, 0, 33, 1, [0, 1])
        check_answer(self, [1, 1, 30, 1, 36], do_runs, 1, 96, 2, [TOP, TOP, TOP, 3 * 2 ** 30, TOP, 3])
        check_answer(self, [2, 2, 0, 64, 2, 32, 1], do_runs, 0, 65, 1, [TOP, 0, 1])
        check_answer(self, [1, 1, 0, 1, 32], do_runs, 0, 32, 1, [TOP])

    def test_bits_behind_the_last_column(self):
        check_answer(self, [1, 1, 2, 1, 1], do_runs, 0, 3, 1, [TOP - 3])
        check_answer(self, [0, 0, 0], do_runs, 0, 3, 1, [TOP - 7])
        check_answer(self, [1, 1, 0, 1, 33], do_runs, 0, 33, 1, [TOP, TOP])

    def test_both_ends(self):
        for w in SIDES[2:]:
            row = [1] + [0] * (w - 2) + [1]
            self.check([2, 2, 0, w - 1, 2, 1, 1], 0, [row])
            row = [1, 1] + [0] * (w - 5) + [1, 1, 1]
            self.check([2, 2, 0, w - 3, 2, 2, 3], 1, [[0] * w, row, [1] * w])

    def test_every_other_place(self):
        for w in SIDES:
            for first in (0, 1):
                begins = list(range(first, w, 2))
                count = len(begins)
                row = [1 if c in begins else 0 for c in range(w)]
                self.check([count, count] + begins + [count] + [1] * count, 0, [row])

    def test_every_short_row(self):
        for w in range(1, 10):
            for number in range(2 ** w):
                row = [number >> c & 1 for c in range(w)]
                check_answer(self, expected(row), do_runs, 0, w, 1, words([row]))

    def test_all_sizes(self):
        for k, (w, h) in enumerate(sizes()):
            for dots in (grid(w, h, k), grid(w, h, k, black=20), grid(w, h, k, black=236)):
                for r in {0, h - 1, h // 2}:
                    self.check(expected(dots[r]), r, dots)

    def test_every_row(self):
        dots = grid(70, 256, 4)
        for r in range(256):
            check_answer(self, expected(dots[r]), do_runs, r, 70, 256, words(dots))

    def test_long_runs(self):
        for w in SIDES[2:]:
            for seed in range(20):
                # Runs and gaps as long as a word and more.
                numbers = noise(8, w + seed)
                row = [c for k, number in enumerate(numbers) for c in [k % 2] * (1 + number % 70)][:w]
                row = row + [0] * (w - len(row))
                self.check(expected(row), 0, [row])

    def test_all_black_and_all_white(self):
        for w, h in sizes():
            for r in (0, h - 1):
                self.check([1, 1, 0, 1, w], r, plain(w, h, 1))
                self.check([0, 0, 0], r, plain(w, h, 0))

    def test_row_out_of_range(self):
        for h in SIDES:
            page = [1] * h
            for r in (h, h + 1, 257, 2 ** 31, TOP):
                with self.subTest(r=r, h=h):
                    check_refused(self, do_runs, r, 3, h, page)
            self.assertEqual([1, 1, 0, 1, 1], do_runs(h - 1, 3, h, page))

    def test_size_out_of_range(self):
        check_sizes_refused(self, do_runs, [0], 1)
        for w, h in ((0, 1), (257, 256), (TOP, 2), (3, 257), (3, 0), (3, TOP)):
            for r in (0, 1, 255, 256, TOP):
                check_refused(self, do_runs, r, w, h, [1] * 256)


if __name__ == "__main__":
    unittest.main()
