import unittest

from dotpages.dots import do_move
from tests.helper import TOP, check_answer, check_refused, check_sizes_refused, grid, modulo, plain, sizes, words

MOVES = (0, 1, 31, 32, 33, 256, -1, -31, -32, -33, -256)


def expected(dx, dy, dots):
    w, h = len(dots[0]), len(dots)
    return [[dots[r - dy][c - dx] if 0 <= c - dx < w and 0 <= r - dy < h else 0 for c in range(w)] for r in range(h)]


class Move(unittest.TestCase):
    def check(self, dx, dy, dots):
        w, h = len(dots[0]), len(dots)
        answer = [0] + words(expected(dx, dy, dots))
        for behind in (0, 1):
            check_answer(self, answer, do_move, modulo(dx), modulo(dy), w, h, words(dots, behind))

    def test_written_out(self):
        page = [0b001, 0b110]
        check_answer(self, [0, 0b001, 0b110], do_move, 0, 0, 3, 2, page)
        check_answer(self, [0, 0b010, 0b100], do_move, 1, 0, 3, 2, page)
        check_answer(self, [0, 0b000, 0b011], do_move, TOP, 0, 3, 2, page)
        check_answer(self, [0, 0b000, 0b001], do_move, 0, 1, 3, 2, page)
        check_answer(self, [0, 0b110, 0b000], do_move, 0, TOP, 3, 2, page)
        check_answer(self, [0, 0b100, 0b000], do_move, 1, TOP, 3, 2, page)
        check_answer(self, [0, 0, 1], do_move, 1, 0, 33, 1, [2147483648, 0])
        check_answer(self, [0, 2147483648, 0], do_move, TOP, 0, 33, 1, [0, 1])
        check_answer(self, [0, 2147483648, 0], do_move, TOP, 0, 33, 1, [0, TOP])

    def test_all_moves(self):
        for w, h in ((1, 1), (33, 34), (65, 40), (100, 3), (3, 100)):
            dots = grid(w, h, w)
            for dx in MOVES:
                for dy in MOVES:
                    with self.subTest(w=w, h=h, dx=dx, dy=dy):
                        self.check(dx, dy, dots)

    def test_all_sizes(self):
        for k, (w, h) in enumerate(sizes()):
            dots = grid(w, h, k)
            for i, dx in enumerate(MOVES):
                dy = MOVES[(i * 3 + k) % len(MOVES)]
                with self.subTest(w=w, h=h, dx=dx, dy=dy):
                    self.check(dx, dy, dots)

    def test_black_and_white(self):
        for k, (w, h) in enumerate(sizes()):
            dx, dy = MOVES[k % 11], MOVES[k // 3 % 11]
            with self.subTest(w=w, h=h, dx=dx, dy=dy):
                self.check(dx, dy, plain(w, h, 0))
                self.check(dx, dy, plain(w, h, 1))
                self.check(0, 0, plain(w, h, 1))

    def test_nothing_left(self):
        for w, h in sizes():
            full = [TOP] * ((w + 31) // 32 * h)
            white = [0] + [0] * len(full)
            for dx, dy in ((w, 0), (-w, 0), (0, h), (0, -h), (w, h), (-w, -h), (256, 0), (-256, 0), (0, 256), (0, -256),
                           (256, -256)):
                with self.subTest(w=w, h=h, dx=dx, dy=dy):
                    check_answer(self, white, do_move, modulo(dx), modulo(dy), w, h, full)

    def test_one_dot_left(self):
        for w, h in sizes():
            full = [TOP] * ((w + 31) // 32 * h)
            corner = plain(w, h, 0)
            corner[h - 1][w - 1] = 1
            check_answer(self, [0] + words(corner), do_move, w - 1, h - 1, w, h, full)
            corner = plain(w, h, 0)
            corner[0][0] = 1
            check_answer(self, [0] + words(corner), do_move, modulo(1 - w), modulo(1 - h), w, h, full)

    def test_move_out_of_range(self):
        for far in (257, -257, 258, -258, 512, 2 ** 31 - 1, 2 ** 31, -2 ** 31 + 1, 65536, 2 ** 31 + 256):
            for near in MOVES + (far,):
                check_refused(self, do_move, modulo(far), modulo(near), 3, 2, [1, 6])
                check_refused(self, do_move, modulo(near), modulo(far), 3, 2, [1, 6])

    def test_farthest_moves_are_in_range(self):
        for dx in (0, 256, 4294967040, TOP):
            for dy in (0, 256, 4294967040, TOP):
                self.assertEqual(0, do_move(dx, dy, 256, 256, [1] * 2048)[0])

    def test_size_out_of_range(self):
        for dx, dy in ((0, 0), (1, TOP), (256, 4294967040)):
            check_sizes_refused(self, do_move, [dx, dy], 1)


if __name__ == "__main__":
    unittest.main()
