import functools
import unittest

from dotpages.dots import do_thin
from tests.helper import (at, check_page, check_sizes_refused, edge_dots, frame, grid, picture, plain, sizes,
                          some_grids, words)

# As a clock goes: columns to the right, rows down.
EIGHT = ((0, -1), (1, -1), (1, 0), (1, 1), (0, 1), (-1, 1), (-1, 0), (-1, -1))
THREES = (((0, 2, 4), (2, 4, 6)), ((0, 2, 6), (0, 4, 6)))


@functools.lru_cache(maxsize=None)
def goes(eight, half):
    follows = sum(1 for k in range(8) if eight[k] == 0 and eight[(k + 1) % 8] == 1)
    some_white = all(any(eight[k] == 0 for k in three) for three in THREES[half])
    return 2 <= sum(eight) <= 6 and follows == 1 and some_white


def eight_of(dots, c, r):
    return tuple(at(dots, c + right, r + down) for right, down in EIGHT)


def after_half(dots, half):
    return [[1 if place == 1 and not goes(eight_of(dots, c, r), half) else 0 for c, place in enumerate(row)]
            for r, row in enumerate(dots)]


def thinned_plainly(dots):
    """The document's words as they stand: how many rounds took a dot away, and what is left."""
    rounds = 0
    while True:
        left = after_half(after_half(dots, 0), 1)
        if left == dots:
            return rounds, dots
        rounds, dots = rounds + 1, left


def thinned(dots):
    """The same for large pages: a dot is only asked again by a half after one of its eight went."""
    left = [list(row) for row in dots]
    every = {(c, r) for r, row in enumerate(dots) for c, place in enumerate(row) if place == 1}
    unasked = [set(every), set(every)]
    rounds = 0
    while True:
        took = 0
        for half in (0, 1):
            gone = [(c, r) for c, r in unasked[half] if left[r][c] == 1 and goes(eight_of(left, c, r), half)]
            unasked[half] = set()
            for c, r in gone:
                left[r][c] = 0
            for c, r in gone:
                near = [(c + right, r + down) for right, down in EIGHT if at(left, c + right, r + down) == 1]
                unasked[0].update(near)
                unasked[1].update(near)
            took += len(gone)
        if took == 0:
            return rounds, left
        rounds += 1


def strokes(w, h, thick):
    """Rings one within another, so many dots thick, with as many white ones between."""
    return [[1 if min(c, r, w - 1 - c, h - 1 - r) // thick % 2 == 0 else 0 for c in range(w)] for r in range(h)]


def stairs(w, h, thick):
    """Strokes that go down aslant."""
    return [[1 if (c - r) % (3 * thick) < thick else 0 for c in range(w)] for r in range(h)]


class Thin(unittest.TestCase):
    def check(self, rounds, expected, dots):
        with self.subTest(w=len(dots[0]), h=len(dots), rounds=rounds):
            check_page(self, rounds, expected, do_thin, [], dots)

    def check_thin(self, dots):
        self.check(*thinned(dots), dots)

    def check_plainly(self, dots):
        self.check(*thinned_plainly(dots), dots)

    def test_no_round_takes_anything(self):
        for dots in (picture("#"), picture("#####"), picture("#", "#", "#"), picture("#..", ".#.", "..#"),
                     picture("..#", ".#.", "#.."), picture("#.#", "...", "#.#"), picture(".#.", "#.#", ".#."),
                     picture("#####", "#...#", "#...#", "#####"), picture("..#..", "..#..", "#####", "..#..", "..#.."),
                     picture("...", "...", "..."), picture("##.", "..#", "..#")):
            self.check(0, dots, dots)

    def test_two_dots_thick(self):
        self.check(1, picture(".......",
                              "..###..",
                              ".......",
                              "......."),
                   picture(".......",
                           ".#####.",
                           ".#####.",
                           "......."))
        self.check(1, picture("....",
                              ".#..",
                              ".#..",
                              "...."),
                   picture(".##.",
                           ".##.",
                           ".##.",
                           ".##."))
        self.check(1, picture("..", ".."), picture("##", "##"))

    def test_three_dots_thick(self):
        self.check(1, picture(".......",
                              ".......",
                              "..##...",
                              ".......",
                              "......."),
                   picture(".......",
                           ".#####.",
                           ".#####.",
                           ".#####.",
                           "......."))

    def test_cross(self):
        self.check(1, picture("...", ".#.", "..."), picture(".#.", "###", ".#."))
        self.check(2, picture(".......",
                              ".......",
                              ".......",
                              "...#...",
                              ".......",
                              ".......",
                              "......."),
                   picture("..###..",
                           "..###..",
                           "#######",
                           "#######",
                           "#######",
                           "..###..",
                           "..###.."))

    def test_ring(self):
        self.check(2, picture(".......",
                              ".......",
                              "..###..",
                              "..#.#..",
                              "..###..",
                              ".......",
                              "......."),
                   picture("#######",
                           "#######",
                           "#######",
                           "###.###",
                           "#######",
                           "#######",
                           "#######"))

    def test_dots_of_a_half_go_at_once(self):
        # One by one, from whichever end, the first to go would leave the other with one black around it, and it'd stay.
        self.check(1, picture("..", "#."), picture("#.", "##"))
        self.check(1, picture("#.", ".."), picture("##", "#."))
        self.check(1, picture("..", ".#"), picture(".#", "##"))
        self.check(1, picture(".#", ".."), picture("##", ".#"))
        self.check(1, picture("...", "...", "..."), picture("##.", "##.", "..."))
        self.check(1, picture("....", ".#..", "..#.", "...."), picture("##..", "###.", ".###", "..##"))

    def test_second_half_sees_what_the_first_left(self):
        # The second half would take the dot above too, had the first not taken all that is around it.
        self.check(1, picture(".#..", "....", "...."), picture("###.", "###.", "...."))
        self.check(1, picture("....", ".#..", "....", "...."), picture("####", "###.", "#.#.", "...."))

    def test_a_round_in_which_the_second_half_alone_takes(self):
        self.check(1, picture("######",
                              "...#.#",
                              "..###.",
                              ".#.#..",
                              ".#.#.."),
                   picture("######",
                           "..##.#",
                           "..###.",
                           ".#.#..",
                           ".#.#.."))
        self.check(2, picture(".#....",
                              "..###.",
                              "...#.#",
                              ".#####",
                              "#....."),
                   picture(".#.###",
                           "..###.",
                           "####.#",
                           ".#####",
                           "#.##.."))

    def test_last_round_is_not_counted(self):
        for side, rounds in ((1, 0), (2, 1), (3, 1), (4, 2), (5, 2), (6, 3), (7, 3), (8, 4)):
            self.assertEqual(rounds, do_thin(side, side, words(plain(side, side, 1)))[0])

    def test_every_small_page(self):
        for w, h in ((1, 1), (2, 2), (3, 3), (4, 3), (3, 4)):
            for number in range(2 ** (w * h)):
                self.check_plainly([[number >> (w * r + c) & 1 for c in range(w)] for r in range(h)])

    def test_words_of_the_document(self):
        for w, h in ((1, 9), (9, 1), (4, 4), (9, 8), (33, 12), (20, 34)):
            for seed in range(6):
                for black in (90, 150, 200, 230, 250):
                    dots = grid(w, h, seed, black)
                    self.check_plainly(dots)
                    self.assertEqual(thinned_plainly(dots), thinned(dots))
            for dots in some_grids(w, h, 3) + [frame(w, h), strokes(w, h, 2), strokes(w, h, 3), stairs(w, h, 2)]:
                self.check_plainly(dots)
                self.assertEqual(thinned_plainly(dots), thinned(dots))

    def test_all_sizes(self):
        for k, (w, h) in enumerate(sizes()):
            self.check_thin(grid(w, h, k, black=(100, 200, 235)[k % 3]))
            self.check_thin(strokes(w, h, 1 + k % 5))
            self.check_thin(stairs(w, h, 1 + k % 4))

    def test_all_black_and_all_white(self):
        for w, h in sizes():
            self.check(0, plain(w, h, 0), plain(w, h, 0))
            self.check_thin(plain(w, h, 1))

    def test_dots_at_the_edges(self):
        for w, h in sizes():
            for dots in edge_dots(w, h)[:8 if w * h < 9000 else 3]:
                self.check(0, dots, dots)
            self.check_thin(frame(w, h))

    def test_thinned_again_nothing_goes(self):
        for seed in range(20):
            w, h = 40 + seed, 70 - seed
            left = do_thin(w, h, words(grid(w, h, seed, black=200)))[1:]
            self.assertTrue(do_thin(w, h, left) == [0] + left)

    def test_out_of_range(self):
        check_sizes_refused(self, do_thin, [], 1)


if __name__ == "__main__":
    unittest.main()
