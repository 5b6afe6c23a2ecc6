"""What the tests share: pages told place by place, apart from how the program holds them."""

SIDES = (1, 2, 31, 32, 33, 64, 65, 255, 256)
TOP = 4294967295
DIGITS = bytes.maketrans(bytes([0, 1]), b"01")


class ReadOnlyList(list):
    """A list that refuses every change, so that a change for a while is seen too."""

    def refuse(self, *args, **kwargs):
        raise AssertionError("what was handed in was changed")

    append = clear = extend = insert = pop = remove = reverse = sort = refuse
    __setitem__ = __delitem__ = __iadd__ = __imul__ = refuse


def modulo(number):
    return number % 2 ** 32


def noise(count, seed):
    """As many numbers from 0 to 255, the same for the same seed."""
    state = (seed * 7919 + 12345) % 2 ** 32
    numbers = []
    for unused in range(count):
        state = (state * 1664525 + 1013904223) % 2 ** 32
        numbers.append(state >> 24)
    return numbers


def grid(w, h, seed, black=128):
    """Rows of 0 and 1; about black of 256 places are dots."""
    numbers = noise(w * h, seed)
    return [[1 if numbers[r * w + c] < black else 0 for c in range(w)] for r in range(h)]


def plain(w, h, colour):
    return [[colour] * w for unused in range(h)]


def picture(*lines):
    return [[1 if sign == "#" else 0 for sign in line] for line in lines]


def at(dots, c, r):
    """Beyond the page all is white."""
    return dots[r][c] if 0 <= r < len(dots) and 0 <= c < len(dots[0]) else 0


def edge_dots(w, h):
    """Pages with one dot: in each corner and amid each edge."""
    places = {(0, 0), (w - 1, 0), (0, h - 1), (w - 1, h - 1), (w // 2, 0), (w // 2, h - 1), (0, h // 2),
              (w - 1, h // 2)}
    return [one_dot(w, h, c, r) for c, r in sorted(places)]


def one_dot(w, h, c, r):
    dots = plain(w, h, 0)
    dots[r][c] = 1
    return dots


def opposite(dots):
    return [[1 - place for place in row] for row in dots]


def frame(w, h):
    """Every place along the edges a dot, and none else."""
    return [[1 if c in (0, w - 1) or r in (0, h - 1) else 0 for c in range(w)] for r in range(h)]


def words(rows, behind=0):
    """The page's list of words; every bit behind the last column is `behind`."""
    told = []
    for row in rows:
        width = (len(row) + 31) // 32
        places = row + [behind] * (32 * width - len(row))
        # Digits are written from the highest on, places from the lowest.
        digits = bytes(reversed(places)).translate(DIGITS)
        for k in reversed(range(width)):
            told.append(int(digits[32 * k:32 * k + 32], 2))
    return told


def flat(rows):
    return [place for row in rows for place in row]


def sizes():
    return [(w, h) for w in SIDES for h in SIDES]


def some_grids(w, h, seed):
    return [grid(w, h, seed), grid(w, h, seed, black=12), grid(w, h, seed, black=244), plain(w, h, 0), plain(w, h, 1)]


def check_answer(case, expected, function, *args):
    """The function answers as expected, twice, in plain numbers and lists, and changes nothing."""
    handed = [ReadOnlyList(arg) if isinstance(arg, list) else arg for arg in args]
    first = function(*handed)
    case.assertIs(type(first), list)
    case.assertEqual({int}, {type(number) for number in first})
    # assertEqual would spend minutes on the difference of two long lists.
    case.assertTrue(first == expected, "%s answers otherwise" % function.__name__)
    first.append(77)
    first[0] = 78
    again = [list(arg) if isinstance(arg, list) else arg for arg in args]
    second = function(*again)
    case.assertTrue(second == expected, "%s answers otherwise the second time" % function.__name__)
    case.assertTrue(again == list(args), "%s changed what was handed in" % function.__name__)


def check_page(case, first, expected, function, numbers, dots):
    """function(*numbers, w, h, page) answers the number first and the page expected, whatever the bits behind are."""
    for behind in (0, 1):
        handed = words(dots, behind)
        check_answer(case, [first] + words(expected), function, *numbers, len(dots[0]), len(dots), handed)


def check_refused(case, function, *args):
    """-2 alone, with the lists as they are and with all lists empty."""
    check_answer(case, [-2], function, *args)
    check_answer(case, [-2], function, *[[] if isinstance(arg, list) else arg for arg in args])


def check_sizes_refused(case, function, numbers, pages, white=0):
    """function(*numbers, w, h, *pages of words) is refused for every w and h out of range, and for no edge.

    Of white pages it answers the number white first.
    """
    for w, h in ((0, 1), (1, 0), (0, 0), (257, 1), (1, 257), (257, 256), (256, 257), (257, 257),
                 (TOP, 1), (1, TOP), (TOP, TOP), (0, TOP), (2 ** 31, 1), (1, 2 ** 31), (258, 3), (3, 258)):
        full = [5] * min(2400, (w + 31) // 32 * h)
        with case.subTest(w=w, h=h):
            check_refused(case, function, *numbers, w, h, *[full] * pages)
            check_refused(case, function, *numbers, w, h, *[[TOP] * 2400] * pages)
            check_refused(case, function, *numbers, w, h, *[[0] * len(full)] * pages)
    for w, h in ((1, 1), (256, 1), (1, 256), (256, 256)):
        full = [0] * ((w + 31) // 32 * h)
        with case.subTest(w=w, h=h):
            case.assertEqual(white, function(*numbers, w, h, *[full] * pages)[0])
