import unittest

from dotpages.dots import do_pack, do_spread
from tests.helper import (SIDES, TOP, check_answer, check_refused, check_sizes_refused, flat, grid, noise, sizes,
                          some_grids, words)


class Pack(unittest.TestCase):
    def test_written_out(self):
        check_answer(self, [0, 0b110, 0b001], do_pack, 3, [0, 1, 255, 7, 0, 0])
        check_answer(self, [0, 1, 0, 1], do_pack, 1, [255, 0, 1])
        check_answer(self, [0, 2147483649], do_pack, 32, [1] + [0] * 30 + [2])
        check_answer(self, [0, 0, 1, 1, 0], do_pack, 33, [0] * 32 + [9] + [3] + [0] * 32)

    def test_every_byte(self):
        for byte in range(256):
            check_answer(self, [0, 0 if byte == 0 else 1], do_pack, 1, [byte])
        check_answer(self, [0, TOP - 1] + [TOP] * 7, do_pack, 256, list(range(256)))

    def test_all_sizes(self):
        for w, h in sizes():
            with self.subTest(w=w, h=h):
                numbers = [(0, 1, 255, number)[number % 4] for number in noise(w * h, w + h)]
                dots = [[0 if number == 0 else 1 for number in numbers[r * w:(r + 1) * w]] for r in range(h)]
                check_answer(self, [0] + words(dots), do_pack, w, numbers)

    def test_all_black_and_all_white(self):
        for w, h in sizes():
            for byte in (0, 1, 255):
                with self.subTest(w=w, h=h, byte=byte):
                    dots = [[1 if byte else 0] * w] * h
                    check_answer(self, [0] + words(dots), do_pack, w, [byte] * (w * h))

    def test_rows_are_counted_from_the_bytes(self):
        for h in (1, 2, 3, 254, 255, 256):
            self.assertEqual([0] + [1] * h, do_pack(1, [1] * h))
            self.assertEqual([0] + [7] * h, do_pack(3, [1] * (3 * h)))

    def test_width_out_of_range(self):
        for w in (0, 257, 258, 2 ** 31, TOP):
            for count in (1, 256, 257, 257 * 256, 257 * 257):
                check_refused(self, do_pack, w, [1] * count)

    def test_height_out_of_range(self):
        for w in SIDES:
            check_answer(self, [-2], do_pack, w, [])
            check_answer(self, [-2], do_pack, w, [1] * (w * 257))
        for h in (258, 1000, 66049):
            check_answer(self, [-2], do_pack, 1, [1] * h)


class Spread(unittest.TestCase):
    def test_written_out(self):
        check_answer(self, [0, 0, 1, 1, 1, 0, 0], do_spread, 3, 2, [0b110, 0b001])
        check_answer(self, [0, 1], do_spread, 1, 1, [TOP])
        check_answer(self, [0] + [0] * 31 + [1, 1], do_spread, 33, 1, [2147483648, 1])

    def test_all_sizes(self):
        for w, h in sizes():
            for dots in some_grids(w, h, w + h):
                with self.subTest(w=w, h=h):
                    check_answer(self, [0] + flat(dots), do_spread, w, h, words(dots))
                    check_answer(self, [0] + flat(dots), do_spread, w, h, words(dots, behind=1))

    def test_undoes_pack(self):
        for w, h in sizes():
            dots = flat(grid(w, h, w))
            self.assertTrue(do_spread(w, h, do_pack(w, dots)[1:]) == [0] + dots)

    def test_out_of_range(self):
        check_sizes_refused(self, do_spread, [], 1)


if __name__ == "__main__":
    unittest.main()
