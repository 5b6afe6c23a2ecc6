"""What the document promises over the whole program, asked of every call of the interface."""

import contextlib
import importlib.util
import inspect
import io
import sys
import unittest

from dotpages import dots
from tests.helper import (TOP, check_answer, check_refused, check_sizes_refused, flat, frame, grid, modulo, words)
from tests.test_language import INTERFACE

# Of each call with w and h: numbers ahead of w and h that fit every page, and how many pages it takes.
WITH_SIZE = {
    "do_spread": ([], 1),
    "do_three": ([128], 3),
    "do_move": ([0, 0], 1),
    "do_thicker": ([1, 1], 1),
    "do_thinner": ([1, 1], 1),
    "do_open": ([1, 1], 1),
    "do_close": ([1, 1], 1),
    "do_fit": ([16, 0], 1),
    "do_keep": ([0], 1),
    "do_thin": ([], 1),
    "do_counts": ([], 1),
    "do_runs": ([0], 1),
    "do_turn": ([1], 1),
    "do_mirror": ([], 1),
    "do_half": ([1], 1),
    "do_double": ([], 1),
    "do_box": ([], 1),
    "do_cut": ([0, 0, 1, 1], 1),
    "do_apart": ([], 2),
}

# Of each number ahead of w and h: what is out of its range on a page of 256 by 256.
OUT_OF_RANGE = {
    "do_three": [(256, TOP)],
    "do_move": [(257, modulo(-257), 2 ** 31)] * 2,
    "do_thicker": [(33, TOP)] * 2,
    "do_thinner": [(33, TOP)] * 2,
    "do_open": [(33, TOP)] * 2,
    "do_close": [(33, TOP)] * 2,
    "do_fit": [(512, TOP)] * 2,
    "do_keep": [(10, TOP)],
    "do_runs": [(256, TOP)],
    "do_turn": [(4, TOP)],
    "do_half": [(0, 5, TOP)],
    "do_cut": [(256, TOP)] * 2 + [(0, 257, TOP)] * 2,
}

# Other numbers, each of them in its range on every page of the sizes below.
MORE_NUMBERS = {
    "do_three": [[0], [150], [255]],
    "do_move": [[1, TOP], [modulo(-256), 256]],
    "do_thicker": [[0, 0], [32, 2]],
    "do_thinner": [[0, 1], [2, 32]],
    "do_open": [[1, 0], [32, 32]],
    "do_close": [[0, 1], [32, 32]],
    "do_fit": [[0, 0], [40, 130], [511, 0]],
    "do_keep": [[1], [5], [9]],
    "do_turn": [[0], [2], [3]],
    "do_half": [[2], [4]],
}
SIZES = ((1, 1), (3, 2), (33, 5), (64, 40), (7, 65))


def numbers_of(name):
    return [WITH_SIZE[name][0]] + MORE_NUMBERS.get(name, [])


def pages_of(name, w, h, seed):
    """The pages that the call takes, with every bit behind the last column a 1."""
    return [words(grid(w, h, seed + k), 1) for k in range(WITH_SIZE[name][1])]


def calls_of_size(w, h):
    """Each call of the interface with its arguments, as (name, arguments)."""
    calls = [("do_pack", [w, flat(grid(w, h, 3))]), ("do_table1", [TOP - w, h, TOP, 2 ** 31 + w])]
    for name in WITH_SIZE:
        for k, numbers in enumerate(numbers_of(name)):
            calls.append((name, numbers + [w, h] + pages_of(name, w, h, k)))
    return calls


def refused_calls():
    calls = [("do_pack", [0, [1]]), ("do_pack", [257, []]), ("do_box", [3, 1, [8]])]
    for name, (numbers, pages) in WITH_SIZE.items():
        calls.append((name, numbers + [257, 1] + [[]] * pages))
    return calls


def every_call():
    return [call for w, h in SIZES for call in calls_of_size(w, h)] + refused_calls()


def copied(arguments):
    return [list(argument) if isinstance(argument, list) else argument for argument in arguments]


def answer_of(name, arguments, module=dots):
    return getattr(module, name)(*copied(arguments))


def fresh_module():
    """The program as it is before the first call."""
    spec = importlib.util.spec_from_file_location("fresh_dots", dots.__file__)
    module = importlib.util.module_from_spec(spec)
    spec.loader.exec_module(module)
    return module


def kept_values():
    return {name: repr(value) for name, value in vars(dots).items() if not name.startswith("__")}


def stack_depth():
    return len(inspect.stack(0))


@contextlib.contextmanager
def few_calls_within_one_another():
    before = sys.getrecursionlimit()
    sys.setrecursionlimit(stack_depth() + 30)
    try:
        yield
    finally:
        sys.setrecursionlimit(before)


class EveryCall(unittest.TestCase):
    def test_none_is_left_out(self):
        self.assertEqual(sorted(INTERFACE), sorted(list(WITH_SIZE) + ["do_pack", "do_table1"]))
        self.assertEqual(set(INTERFACE), {name for name, arguments in every_call()})
        for name, (numbers, pages) in WITH_SIZE.items():
            self.assertEqual(len(numbers) + 2 + pages, len(INTERFACE[name].split(", ")))
            self.assertEqual(len(numbers), len(OUT_OF_RANGE.get(name, [])))

    def test_handed_in_it_stays_and_twice_it_is_the_same(self):
        for name, arguments in every_call():
            with self.subTest(name=name, arguments=arguments[:6]):
                check_answer(self, answer_of(name, arguments), getattr(dots, name), *arguments)

    def test_the_same_with_other_calls_between(self):
        calls = every_call()
        alone = [answer_of(name, arguments, fresh_module()) for name, arguments in calls]
        order = list(range(len(calls)))
        for k in order + order[::-1] + order[::2] + order[1::2] + order[::-7]:
            name, arguments = calls[k]
            with self.subTest(name=name, arguments=arguments[:6]):
                self.assertTrue(answer_of(name, arguments) == alone[k])

    def test_lists_that_are_shared_between_calls(self):
        page = words(grid(33, 5, 1), 1)
        before = list(page)
        calls = [(name, numbers + [33, 5] + [page] * pages) for name, (numbers, pages) in WITH_SIZE.items()]
        alone = [answer_of(name, arguments, fresh_module()) for name, arguments in calls]
        for unused in range(2):
            for (name, arguments), answer in zip(calls, alone):
                self.assertTrue(getattr(dots, name)(*arguments) == answer, name)
                self.assertTrue(page == before, name)

    def test_nothing_is_kept(self):
        before = kept_values()
        for name, arguments in every_call():
            answer_of(name, arguments)
        self.assertEqual(before, kept_values())

    def test_nothing_is_printed(self):
        told = io.StringIO()
        with contextlib.redirect_stdout(told), contextlib.redirect_stderr(told):
            for name, arguments in every_call():
                answer_of(name, arguments)
        self.assertEqual("", told.getvalue())

    def test_loops_go_through_large_pages(self):
        for name, arguments in calls_of_size(256, 256):
            with self.subTest(name=name, arguments=arguments[:6]):
                with few_calls_within_one_another():
                    answer = getattr(dots, name)(*arguments)
                self.assertIs(type(answer), list)

    def test_answers_are_words_and_counts(self):
        for name, arguments in every_call():
            answer = answer_of(name, arguments)
            with self.subTest(name=name, arguments=arguments[:6]):
                self.assertTrue(all(type(number) is int and number <= TOP for number in answer))
                self.assertTrue(answer in ([-2], [-6]) or min(answer) >= 0)


class Refusals(unittest.TestCase):
    def test_size_out_of_range(self):
        for name, (numbers, pages) in WITH_SIZE.items():
            check_sizes_refused(self, getattr(dots, name), numbers, pages, white=-6 if name == "do_box" else 0)

    def test_a_number_out_of_range(self):
        for name, ranges in OUT_OF_RANGE.items():
            numbers, pages = WITH_SIZE[name]
            for k, wrong_ones in enumerate(ranges):
                for wrong in wrong_ones:
                    handed = numbers[:k] + [wrong] + numbers[k + 1:]
                    for w, h in ((256, 256), (1, 1), (0, 256), (256, 257), (TOP, TOP)):
                        full = [[TOP] * min(2400, (w + 31) // 32 * h)] * pages
                        with self.subTest(name=name, handed=handed, w=w, h=h):
                            check_refused(self, getattr(dots, name), *handed, w, h, *full)

    def test_pack(self):
        for w in (0, 257, TOP):
            check_refused(self, dots.do_pack, w, [1] * 257)
        check_answer(self, [-2], dots.do_pack, 256, [])
        check_answer(self, [-2], dots.do_pack, 256, [1] * (256 * 257))
        check_answer(self, [-2], dots.do_pack, 257, [1] * (257 * 257))


class SmallestAndLargest(unittest.TestCase):
    def check(self, expected, name, *arguments):
        with self.subTest(name=name, numbers=[argument for argument in arguments if isinstance(argument, int)]):
            check_answer(self, expected, getattr(dots, name), *arguments)

    def test_one_by_one(self):
        # The place's colour, and the word that tells it, with bits behind and without.
        for p, word in ((0, 0), (1, 1), (0, TOP - 1), (1, TOP)):
            page = [1, 1, [word]]
            self.check([0, p], "do_pack", 1, [255 * p])
            for name in ("do_spread", "do_mirror", "do_thin"):
                self.check([0, p], name, *page)
            for name in ("do_thicker", "do_thinner", "do_open", "do_close"):
                self.check([0, p], name, 32, 32, *page)
            self.check([0, p], "do_three", 240, *page, [0], [TOP])
            self.check([0, p], "do_move", 0, 0, *page)
            self.check([0, 0], "do_move", 1, 0, *page)
            self.check([0, 0], "do_move", 0, modulo(-256), *page)
            self.check([0, p], "do_fit", 16, 495, *page)
            self.check([0, 1 - p], "do_fit", 0, 511, *page)
            self.check([0, p], "do_keep", 0, *page)
            self.check([0, 0], "do_keep", 1, *page)
            self.check([p, 1, p, 1, p], "do_counts", *page)
            self.check([1, 1, 0, 1, 1] if p == 1 else [0, 0, 0], "do_runs", 0, *page)
            for q in range(4):
                self.check([0, p], "do_turn", q, *page)
            self.check([0], "do_half", 1, *page)
            self.check([0, 3 * p, 3 * p], "do_double", *page)
            self.check([0, 0, 0, 1, 1] if p == 1 else [-6], "do_box", *page)
            self.check([0, p], "do_cut", 0, 0, 1, 1, *page)
            self.check([p], "do_apart", *page, [0])

    def test_all_of_256_by_256(self):
        for p in (0, 1):
            same = [0] + [TOP * p] * 2048
            page = [256, 256, [TOP * p] * 2048]
            self.check(same, "do_pack", 256, [9 * p] * 65536)
            self.check([0] + [p] * 65536, "do_spread", *page)
            self.check(same, "do_mirror", *page)
            for name in ("do_thicker", "do_thinner", "do_open", "do_close"):
                self.check(same, name, 32, 32, *page)
            self.check(same, "do_three", 240, *page, [0] * 2048, [TOP] * 2048)
            self.check(same, "do_move", 0, 0, *page)
            self.check([0] * 2049, "do_move", 256, 0, *page)
            self.check([0] * 2049, "do_move", 0, modulo(-256), *page)
            self.check(same, "do_fit", 16, 0, *page)
            self.check(same, "do_keep", 0, *page)
            self.check([0] * 2049, "do_keep", 9, *page)
            self.check([65536 * p, 256] + [256 * p] * 256 + [256] + [256 * p] * 256, "do_counts", *page)
            self.check([1, 1, 0, 1, 256] if p == 1 else [0, 0, 0], "do_runs", 255, *page)
            for q in range(4):
                self.check(same, "do_turn", q, *page)
            self.check([0] + [TOP * p] * 512, "do_half", 4, *page)
            self.check([0] + [TOP * p] * 8192, "do_double", *page)
            self.check([0, 0, 0, 256, 256] if p == 1 else [-6], "do_box", *page)
            self.check(same, "do_cut", 0, 0, 256, 256, *page)
            self.check([0, p], "do_cut", 255, 255, 1, 1, *page)
            self.check([65536 * p], "do_apart", *page, [0] * 2048)

    def test_edges_of_256_by_256(self):
        edges = words(frame(256, 256))
        within = [TOP - word for word in edges]
        self.check([0] + within, "do_keep", 8, 256, 256, [TOP] * 2048)
        self.check([0] + within, "do_fit", 511, 0, 256, 256, [TOP] * 2048)
        self.check([0] + edges, "do_thin", 256, 256, edges)


if __name__ == "__main__":
    unittest.main()
