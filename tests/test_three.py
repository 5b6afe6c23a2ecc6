import unittest

from dotpages.dots import do_three
from tests.helper import TOP, check_answer, check_refused, check_sizes_refused, grid, plain, sizes, words


def expected(t, x, y, z):
    return [[t // 2 ** (4 * a + 2 * b + c) % 2 for a, b, c in zip(*rows)] for rows in zip(x, y, z)]


class Three(unittest.TestCase):
    # The columns of these three go through 0 to 7.
    x, y, z = [0b11110000], [0b11001100], [0b10101010]

    def check(self, t, x, y, z):
        w, h = len(x[0]), len(x)
        answer = [0] + words(expected(t, x, y, z))
        check_answer(self, answer, do_three, t, w, h, words(x), words(y), words(z))
        check_answer(self, answer, do_three, t, w, h, words(x, 1), words(y, 1), words(z, 1))
        check_answer(self, answer, do_three, t, w, h, words(x, 1), words(y, 0), words(z, 1))

    def test_every_table_tells_itself(self):
        for t in range(256):
            check_answer(self, [0, t], do_three, t, 8, 1, self.x, self.y, self.z)

    def test_each_bit_by_itself(self):
        for k in range(8):
            a, b, c = k // 4, k // 2 % 2, k % 2
            check_answer(self, [0, 1], do_three, 2 ** k, 1, 1, [a], [b], [c])
            check_answer(self, [0, 0], do_three, 255 - 2 ** k, 1, 1, [a], [b], [c])

    def test_tables_with_a_name(self):
        check_answer(self, [0, 0b1100], do_three, 240, 4, 1, [0b1100], [0b1010], [0b0110])
        check_answer(self, [0, 0b1010], do_three, 204, 4, 1, [0b1100], [0b1010], [0b0110])
        check_answer(self, [0, 0b0110], do_three, 170, 4, 1, [0b1100], [0b1010], [0b0110])
        check_answer(self, [0, 0b0011], do_three, 15, 4, 1, [0b1100], [0b1010], [0b0110])

    def test_every_table_on_three_pages(self):
        pages = [grid(37, 5, seed) for seed in (1, 2, 3)]
        for t in range(256):
            with self.subTest(t=t):
                self.check(t, *pages)

    def test_all_sizes(self):
        for k, (w, h) in enumerate(sizes()):
            pages = [grid(w, h, seed) for seed in (w, h + 300, w + h + 600)]
            for t in (2 ** (k % 8), 0, 255, 150, k * 3 + 1):
                with self.subTest(w=w, h=h, t=t):
                    self.check(t, *pages)

    def test_black_and_white(self):
        for w, h in sizes():
            for k in (0, 5, 7):
                pages = [plain(w, h, k // 4), plain(w, h, k // 2 % 2), plain(w, h, k % 2)]
                with self.subTest(w=w, h=h, k=k):
                    self.check(2 ** k, *pages)
                    self.check(255 - 2 ** k, *pages)

    def test_one_list_thrice(self):
        x = words(grid(40, 3, 9))
        self.assertEqual([0] + words(grid(40, 3, 9)), do_three(128, 40, 3, x, x, x))

    def test_table_out_of_range(self):
        for t in (256, 257, 511, 512, 2 ** 31, TOP):
            check_refused(self, do_three, t, 8, 1, self.x, self.y, self.z)
            check_refused(self, do_three, t, 256, 256, *[[TOP] * 2048] * 3)

    def test_size_out_of_range(self):
        for t in (0, 2, 254):
            check_sizes_refused(self, do_three, [t], 3)

    def test_all_out_of_range(self):
        check_refused(self, do_three, 256, 0, 257, [1], [1], [1])
        check_refused(self, do_three, TOP, TOP, TOP, [1], [1], [1])


if __name__ == "__main__":
    unittest.main()
