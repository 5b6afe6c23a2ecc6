import unittest

from dotpages.dots import do_counts
from tests.helper import (check_answer, check_sizes_refused, edge_dots, frame, picture, plain, sizes, some_grids, words)


def expected(dots):
    columns = [sum(column) for column in zip(*dots)]
    rows = [sum(row) for row in dots]
    return [sum(columns), len(columns)] + columns + [len(rows)] + rows


class Counts(unittest.TestCase):
    def check(self, answer, dots):
        for behind in (0, 1):
            with self.subTest(w=len(dots[0]), h=len(dots), behind=behind):
                check_answer(self, answer, do_counts, len(dots[0]), len(dots), words(dots, behind))

    def test_written_out(self):
        self.check([6, 4, 3, 2, 0, 1, 3, 3, 1, 2], picture("##.#", "#...", "##.."))
        self.check([0, 1, 0, 1, 0], [[0]])
        self.check([1, 1, 1, 1, 1], [[1]])
        self.check([2, 3, 1, 0, 1, 1, 2], picture("#.#"))
        self.check([2, 1, 2, 3, 1, 0, 1], picture("#", ".", "#"))
        check_answer(self, [3, 33] + [0] * 31 + [1, 2] + [2, 2, 1], do_counts, 33, 2, [2147483648, 1, 0, 1])

    def test_all_sizes(self):
        for w, h in sizes():
            for dots in some_grids(w, h, w + h) + [frame(w, h)]:
                self.check(expected(dots), dots)

    def test_all_black_and_all_white(self):
        for w, h in sizes():
            self.check([w * h, w] + [h] * w + [h] + [w] * h, plain(w, h, 1))
            self.check([0, w] + [0] * w + [h] + [0] * h, plain(w, h, 0))

    def test_dots_at_the_edges(self):
        for w, h in sizes():
            for dots in edge_dots(w, h)[:8 if w * h < 9000 else 3]:
                self.check(expected(dots), dots)
                self.assertEqual(1, do_counts(w, h, words(dots, 1))[0])

    def test_out_of_range(self):
        check_sizes_refused(self, do_counts, [], 1)


if __name__ == "__main__":
    unittest.main()
