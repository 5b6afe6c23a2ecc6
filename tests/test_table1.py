import unittest

from dotpages.dots import do_table1, do_three
from tests.helper import TOP, check_answer, noise

WORDS = (0, 1, TOP, 2 ** 31, 0x0F0F0F0F, 0x33333333, 0x55555555, 0x12345678, 0xDEADBEEF, TOP - 1, 2 ** 31 - 1, 65536)
TABLES = (0, 255, 256, 511, TOP, 1, 2, 4, 8, 16, 32, 64, 128, 232, 150)


def expected(t, a, b, c):
    """Bit by bit, as the document says it."""
    word = 0
    for k in range(32):
        x, y, z = a // 2 ** k % 2, b // 2 ** k % 2, c // 2 ** k % 2
        word += t // 2 ** (4 * x + 2 * y + z) % 2 * 2 ** k
    return word


def some_words(count, seed):
    numbers = noise(4 * count, seed)
    return [sum(numbers[4 * k + i] << (8 * i) for i in range(4)) for k in range(count)]


class Table1(unittest.TestCase):
    def check(self, t, a, b, c):
        check_answer(self, [expected(t, a, b, c)], do_table1, t, a, b, c)

    def test_written_out(self):
        check_answer(self, [6], do_table1, 232, 6, 3, 4)
        check_answer(self, [0], do_table1, 0, TOP, TOP, TOP)
        check_answer(self, [TOP], do_table1, 255, 0, 0, 0)
        check_answer(self, [TOP], do_table1, 1, 0, 0, 0)
        check_answer(self, [0], do_table1, 254, 0, 0, 0)
        check_answer(self, [TOP], do_table1, 128, TOP, TOP, TOP)
        check_answer(self, [2 ** 31], do_table1, 128, 2 ** 31, TOP, 2 ** 31 + 1)
        check_answer(self, [TOP - 1], do_table1, 1, 1, 0, 0)

    def test_tables_with_a_name(self):
        a, b, c = 0x12345678, 0xDEADBEEF, 0x0F1E2D3C
        check_answer(self, [a], do_table1, 240, a, b, c)
        check_answer(self, [b], do_table1, 204, a, b, c)
        check_answer(self, [c], do_table1, 170, a, b, c)
        check_answer(self, [TOP - a], do_table1, 15, a, b, c)
        check_answer(self, [a ^ b ^ c], do_table1, 150, a, b, c)
        check_answer(self, [a | b | c], do_table1, 254, a, b, c)

    def test_every_table_tells_itself(self):
        # The lowest eight bits of these three go through 0 to 7; higher up all are white.
        for t in range(256):
            rest = TOP - 255 if t % 2 == 1 else 0
            check_answer(self, [rest + t], do_table1, t, 0b11110000, 0b11001100, 0b10101010)

    def test_each_of_the_eight_ways(self):
        for k in range(8):
            a, b, c = k // 4, k // 2 % 2, k % 2
            for t in range(256):
                check_answer(self, [TOP if t >> k & 1 else 0], do_table1, t, a * TOP, b * TOP, c * TOP)
            for place in range(32):
                one = 2 ** place
                self.check(2 ** k, a * one, b * one, c * one)
                self.check(255 - 2 ** k, a * one, b * one, c * one)
                self.check(2 ** k, TOP - a * one, TOP - b * one, TOP - c * one)

    def test_words_at_the_edges(self):
        for t in TABLES:
            for a in WORDS[:5]:
                for b in WORDS[:6]:
                    for c in WORDS:
                        self.check(t, a, b, c)

    def test_ordinary_words(self):
        for t in range(256):
            self.check(t, *some_words(3, t))

    def test_only_the_lowest_eight_bits_count(self):
        for low in (0, 1, 2, 127, 128, 232, 254, 255):
            a, b, c = some_words(3, low)
            answer = [expected(low, a, b, c)]
            for high in (0, 256, 512, 768, 65536, 2 ** 31, TOP - 255):
                check_answer(self, answer, do_table1, high + low, a, b, c)
        for place in range(8, 32):
            check_answer(self, [0], do_table1, 2 ** place, *some_words(3, place))

    def test_one_number_within_a_word(self):
        for t in TABLES + (257, 65535, 2 ** 31, TOP - 1, TOP - 255):
            for seed in range(30):
                answer = do_table1(t, *some_words(3, seed))
                self.assertEqual(1, len(answer))
                self.assertTrue(0 <= answer[0] <= TOP)

    def test_as_do_three_makes_it(self):
        for t in range(256):
            a, b, c = some_words(3, t + 1000)
            self.assertEqual([0] + do_table1(t, a, b, c), do_three(t, 32, 1, [a], [b], [c]))


if __name__ == "__main__":
    unittest.main()
