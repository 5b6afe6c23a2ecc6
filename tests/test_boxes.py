import unittest

from dotpages.dots import do_close, do_open, do_thicker, do_thinner
from tests.helper import TOP, check_answer, check_refused, check_sizes_refused, grid, picture, plain, sizes, words

REACHES = (0, 1, 31, 32)
PAIRS = [(dx, dy) for dx in REACHES for dy in REACHES] + [(2, 5), (7, 3)]
CALLS = (do_thicker, do_thinner, do_open, do_close)


def box(c, r, dx, dy, w, h):
    """The box around (c, r): first column, first row, and the column and row behind its last."""
    return max(0, c - dx), max(0, r - dy), min(w, c + dx + 1), min(h, r + dy + 1)


def sums(dots):
    """How many dots are left of and above each corner."""
    totals = [[0] * (len(dots[0]) + 1)]
    for row in dots:
        line = [0]
        for c, place in enumerate(row):
            line.append(line[c] + place + totals[-1][c + 1] - totals[-1][c])
        totals.append(line)
    return totals


def by_counting(dots, dx, dy, wanted):
    """wanted(dots in the box, places in the box), asked at every place."""
    w, h = len(dots[0]), len(dots)
    totals = sums(dots)
    answer = []
    for r in range(h):
        row = []
        for c in range(w):
            left, top, right, bottom = box(c, r, dx, dy, w, h)
            found = totals[bottom][right] - totals[top][right] - totals[bottom][left] + totals[top][left]
            row.append(1 if wanted(found, (right - left) * (bottom - top)) else 0)
        answer.append(row)
    return answer


def thicker(dots, dx, dy):
    return by_counting(dots, dx, dy, lambda found, places: found > 0)


def thinner(dots, dx, dy):
    return by_counting(dots, dx, dy, lambda found, places: found == places)


def asked_one_by_one(dots, dx, dy, ask):
    """The document's words as they stand, for small pages: ask is any or all."""
    w, h = len(dots[0]), len(dots)
    return [[1 if ask(dots[j][i] for j in range(h) for i in range(w) if abs(i - c) <= dx and abs(j - r) <= dy) else 0
             for c in range(w)] for r in range(h)]


class Boxes(unittest.TestCase):
    def check(self, call, expected, dx, dy, dots):
        w, h = len(dots[0]), len(dots)
        for behind in (0, 1):
            check_answer(self, [0] + words(expected), call, dx, dy, w, h, words(dots, behind))

    def check_all(self, dx, dy, dots):
        with self.subTest(w=len(dots[0]), h=len(dots), dx=dx, dy=dy):
            thick, thin = thicker(dots, dx, dy), thinner(dots, dx, dy)
            self.check(do_thicker, thick, dx, dy, dots)
            self.check(do_thinner, thin, dx, dy, dots)
            self.check(do_open, thicker(thin, dx, dy), dx, dy, dots)
            self.check(do_close, thinner(thick, dx, dy), dx, dy, dots)

    def test_written_out(self):
        dot = picture(".....", "..#..", ".....")
        self.check(do_thicker, picture(".....", ".###.", "....."), 1, 0, dot)
        self.check(do_thicker, picture("..#..", "..#..", "..#.."), 0, 1, dot)
        self.check(do_thicker, picture(".###.", ".###.", ".###."), 1, 1, dot)
        self.check(do_thicker, picture("#####", "#####", "#####"), 2, 1, dot)
        hole = picture("#####", "##.##", "#####")
        self.check(do_thinner, picture("#####", "#...#", "#####"), 1, 0, hole)
        self.check(do_thinner, picture("##.##", "##.##", "##.##"), 0, 1, hole)
        self.check(do_thinner, picture("#...#", "#...#", "#...#"), 1, 1, hole)
        self.check(do_thinner, picture(".....", ".....", "....."), 2, 1, hole)

    def test_hairs_go_and_cracks_fill(self):
        hair = picture(".......", ".###...", ".######", ".###...", ".......")
        self.check(do_open, picture(".......", ".###...", ".###...", ".###...", "......."), 1, 1, hair)
        crack = picture("##.##..", "##.##..", "##.##..")
        self.check(do_close, picture("#####..", "#####..", "#####.."), 1, 1, crack)

    def test_the_box_ends_with_the_page(self):
        edge = picture("##...", "##...", ".....", ".....")
        self.check(do_thinner, picture("#....", ".....", ".....", "....."), 1, 1, edge)
        self.check(do_open, edge, 1, 1, edge)
        corner = picture(".....", ".....", ".....", "....#")
        self.check(do_thicker, picture(".....", ".....", "...##", "...##"), 1, 1, corner)

    def test_across_words(self):
        check_answer(self, [0, 2 ** 31, 3], do_thicker, 1, 0, 34, 1, [0, 1])
        check_answer(self, [0, 2 ** 30 + 2 ** 31, 1], do_thicker, 1, 0, 34, 1, [2 ** 31, 0])
        check_answer(self, [0, 2 ** 31 - 1, 4], do_thinner, 1, 0, 35, 1, [TOP, TOP - 1])
        check_answer(self, [0, TOP, 1], do_thicker, 32, 0, 33, 1, [1, 0])
        check_answer(self, [0, TOP, 1], do_thicker, 32, 0, 33, 1, [0, 1])
        check_answer(self, [0, TOP - 1, 1], do_thicker, 31, 0, 33, 1, [0, 1])
        check_answer(self, [0, TOP, 0], do_thicker, 31, 0, 33, 1, [1, 0])

    def test_words_of_the_document(self):
        for w, h in ((1, 1), (1, 5), (5, 1), (6, 5), (9, 9), (33, 4)):
            for black in (12, 128, 244):
                dots = grid(w, h, w + black, black)
                for dx, dy in ((0, 0), (1, 0), (0, 1), (1, 1), (2, 1), (1, 3), (8, 8), (31, 32), (32, 0)):
                    with self.subTest(w=w, h=h, dx=dx, dy=dy, black=black):
                        self.check(do_thicker, asked_one_by_one(dots, dx, dy, any), dx, dy, dots)
                        self.check(do_thinner, asked_one_by_one(dots, dx, dy, all), dx, dy, dots)
                        thin = asked_one_by_one(dots, dx, dy, all)
                        self.check(do_open, asked_one_by_one(thin, dx, dy, any), dx, dy, dots)
                        thick = asked_one_by_one(dots, dx, dy, any)
                        self.check(do_close, asked_one_by_one(thick, dx, dy, all), dx, dy, dots)

    def test_all_reaches(self):
        for w, h in ((1, 1), (33, 31), (65, 70), (100, 40)):
            for k, (dx, dy) in enumerate(PAIRS):
                few = 1 if dx * dy > 100 else 16
                self.check_all(dx, dy, grid(w, h, k, black=few))
                self.check_all(dx, dy, grid(w, h, k, black=256 - few))

    def test_all_sizes(self):
        for k, (w, h) in enumerate(sizes()):
            dx, dy = PAIRS[k % 17]
            few = 1 if dx * dy > 100 else 16
            self.check_all(dx, dy, grid(w, h, k, black=few))
            self.check_all(dy, dx, grid(w, h, k, black=256 - few))

    def test_one_dot_in_a_corner(self):
        for k, (w, h) in enumerate(sizes()):
            dx, dy = PAIRS[k % 16]
            for c, r in ((0, 0), (w - 1, 0), (0, h - 1), (w - 1, h - 1)):
                left, top, right, bottom = box(c, r, dx, dy, w, h)
                near = [[1 if left <= i < right and top <= j < bottom else 0 for i in range(w)] for j in range(h)]
                far = [[1 - place for place in row] for row in near]
                dot, hole = plain(w, h, 0), plain(w, h, 1)
                dot[r][c], hole[r][c] = 1, 0
                with self.subTest(w=w, h=h, dx=dx, dy=dy, c=c, r=r):
                    self.check(do_thicker, near, dx, dy, dot)
                    self.check(do_thinner, far, dx, dy, hole)

    def test_black_and_white(self):
        for k, (w, h) in enumerate(sizes()):
            for dx, dy in (PAIRS[k % 16], PAIRS[(k // 4 + 5) % 16], (32, 32)):
                for colour in (0, 1):
                    for call in CALLS:
                        with self.subTest(w=w, h=h, dx=dx, dy=dy, colour=colour, call=call.__name__):
                            self.check(call, plain(w, h, colour), dx, dy, plain(w, h, colour))

    def test_no_reach_changes_nothing(self):
        for w, h in sizes():
            dots = grid(w, h, w + h)
            for call in CALLS:
                self.check(call, dots, 0, 0, dots)

    def test_open_and_close_are_made_of_the_others(self):
        for k, (w, h) in enumerate(sizes()):
            page = words(grid(w, h, k, black=200))
            for dx, dy in ((1, 0), (0, 1), (1, 1), (2, 3)):
                thin = do_thinner(dx, dy, w, h, page)[1:]
                self.assertTrue(do_open(dx, dy, w, h, page) == do_thicker(dx, dy, w, h, thin))
                thick = do_thicker(dx, dy, w, h, page)[1:]
                self.assertTrue(do_close(dx, dy, w, h, page) == do_thinner(dx, dy, w, h, thick))

    def test_reach_out_of_range(self):
        for call in CALLS:
            for far in (33, 34, 64, 256, 2 ** 31, TOP - 31, TOP):
                for near in REACHES + (far,):
                    check_refused(self, call, far, near, 3, 2, [1, 6])
                    check_refused(self, call, near, far, 3, 2, [1, 6])
                check_refused(self, call, far, far, 0, 257, [1])

    def test_size_out_of_range(self):
        for call in CALLS:
            for dx, dy in ((0, 0), (1, 32), (32, 32)):
                check_sizes_refused(self, call, [dx, dy], 1)


if __name__ == "__main__":
    unittest.main()
