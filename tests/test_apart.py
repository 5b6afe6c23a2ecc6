import unittest

from dotpages.dots import do_apart
from tests.helper import (SIDES, TOP, check_answer, check_sizes_refused, edge_dots, frame, grid, one_dot, opposite,
                          picture, plain, sizes, some_grids, words)


def expected(first, second):
    return sum(1 for rows in zip(first, second) for a, b in zip(*rows) if a + b == 1)


class Apart(unittest.TestCase):
    def check(self, answer, first, second):
        w, h = len(first[0]), len(first)
        for behind in ((0, 0), (0, 1), (1, 0), (1, 1)):
            with self.subTest(w=w, h=h, behind=behind):
                check_answer(self, [answer], do_apart, w, h, words(first, behind[0]), words(second, behind[1]))

    def check_pair(self, first, second):
        self.check(expected(first, second), first, second)
        self.check(expected(first, second), second, first)

    def test_written_out(self):
        self.check(3, picture("##..", "#..#"), picture("#.#.", "#..."))
        self.check(0, picture("##..", "#..#"), picture("##..", "#..#"))
        self.check(8, picture("##..", "#..#"), picture("..##", ".##."))

    def test_one_place(self):
        for a in (0, 1):
            for b in (0, 1):
                self.check(1 if a != b else 0, [[a]], [[b]])

    def test_bits_behind_the_last_column(self):
        check_answer(self, [0], do_apart, 1, 1, [TOP], [1])
        check_answer(self, [1], do_apart, 1, 1, [TOP - 1], [1])
        check_answer(self, [0], do_apart, 31, 1, [2 ** 31], [0])
        check_answer(self, [1], do_apart, 32, 1, [2 ** 31], [0])
        check_answer(self, [1], do_apart, 33, 1, [0, TOP], [0, 0])
        check_answer(self, [0], do_apart, 33, 2, [5, TOP - 1, 6, 2], [5, 0, 6, TOP - 5])

    def test_with_itself_and_its_opposite(self):
        for k, (w, h) in enumerate(sizes()):
            for dots in (grid(w, h, k), plain(w, h, 0), plain(w, h, 1), frame(w, h)):
                self.check(0, dots, dots)
                self.check(w * h, dots, opposite(dots))

    def test_one_list_twice(self):
        for w, h in sizes():
            page = words(grid(w, h, w + h), 1)
            self.assertEqual([0], do_apart(w, h, page, page))

    def test_one_place_apart(self):
        for w, h in ((1, 1), (3, 2), (33, 3), (65, 2), (2, 40)):
            dots = grid(w, h, 8)
            for r in range(h):
                for c in range(w):
                    other = [list(row) for row in dots]
                    other[r][c] = 1 - other[r][c]
                    self.check(1, dots, other)
                    self.check_pair(dots, one_dot(w, h, c, r))

    def test_far_edges(self):
        for w, h in sizes():
            for dots in edge_dots(w, h)[:8 if w * h < 9000 else 3]:
                self.check(1, dots, plain(w, h, 0))
                self.check(w * h - 1, plain(w, h, 1), dots)

    def test_all_sizes(self):
        for k, (w, h) in enumerate(sizes()):
            self.check_pair(grid(w, h, k), grid(w, h, k + 100))
            self.check_pair(grid(w, h, k, black=20), grid(w, h, k + 100, black=230))

    def test_sorts_of_pages(self):
        for w, h in ((1, 1), (2, 2), (31, 5), (33, 32), (130, 9), (9, 130)):
            pages = some_grids(w, h, w) + [frame(w, h)]
            for first in pages:
                for second in pages:
                    self.check(expected(first, second), first, second)

    def test_the_most_places(self):
        for side in SIDES:
            count = (side + 31) // 32
            self.assertEqual([side * 256], do_apart(side, 256, [TOP] * (count * 256), [0] * (count * 256)))
            self.assertEqual([256 * side], do_apart(256, side, [0] * (8 * side), [TOP] * (8 * side)))

    def test_out_of_range(self):
        check_sizes_refused(self, do_apart, [], 2)


if __name__ == "__main__":
    unittest.main()
