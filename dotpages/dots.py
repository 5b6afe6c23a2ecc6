"""The calls on pages of dots.

Within this file a page is a list of rows, from above, and a row is one whole number: its bit c is the place in
column c. So a row is moved, joined and turned over as a whole, wherever its words begin and end.
"""

LONGEST_SIDE = 256
FARTHEST_MOVE = 256
FARTHEST_REACH = 32
LAST_TABLE = 255
WORD_BITS = 32
WORD_FULL = 4294967295
FIRST_NEGATIVE = 2147483648


def size_fits(w, h):
    return 1 <= w <= LONGEST_SIDE and 1 <= h <= LONGEST_SIDE


def words_in_row(w):
    return (w + WORD_BITS - 1) // WORD_BITS


def black_row(w):
    return (1 << w) - 1


def row_from_words(words):
    row = 0
    for k, word in enumerate(words):
        row = row | (word << (WORD_BITS * k))
    return row


def page_from_words(w, h, x):
    width = words_in_row(w)
    # Bits behind the last column may be anything in x; from here on every row is free of them.
    black = black_row(w)
    return [row_from_words(x[r * width:(r + 1) * width]) & black for r in range(h)]


def answer_page(w, page):
    answer = [0]
    for row in page:
        for k in range(words_in_row(w)):
            answer.append((row >> (WORD_BITS * k)) & WORD_FULL)
    return answer


def row_from_bytes(row_bytes):
    row = 0
    for c, byte in enumerate(row_bytes):
        if byte != 0:
            row = row | (1 << c)
    return row


def do_pack(w, b):
    # The width goes first: without it there is no telling how many rows b has.
    if not 1 <= w <= LONGEST_SIDE:
        return [-2]
    h = len(b) // w
    if not size_fits(w, h):
        return [-2]
    return answer_page(w, [row_from_bytes(b[r * w:(r + 1) * w]) for r in range(h)])


def do_spread(w, h, x):
    if not size_fits(w, h):
        return [-2]
    answer = [0]
    for row in page_from_words(w, h, x):
        for c in range(w):
            answer.append((row >> c) & 1)
    return answer


def where_equal(row, bit, black):
    # Turning over within the width alone keeps the bits behind the last column 0.
    return row if bit == 1 else row ^ black


def three_rows(t, black, a, b, c):
    row = 0
    for k in range(8):
        if (t >> k) & 1 == 1:
            both = where_equal(a, k >> 2, black) & where_equal(b, (k >> 1) & 1, black)
            row = row | (both & where_equal(c, k & 1, black))
    return row


def do_three(t, w, h, x, y, z):
    if not (0 <= t <= LAST_TABLE and size_fits(w, h)):
        return [-2]
    black = black_row(w)
    first = page_from_words(w, h, x)
    second = page_from_words(w, h, y)
    third = page_from_words(w, h, z)
    return answer_page(w, [three_rows(t, black, first[r], second[r], third[r]) for r in range(h)])


def signed(number):
    # Moves are handed in modulo 2 ** 32.
    return number - WORD_FULL - 1 if number >= FIRST_NEGATIVE else number


def move_fits(move):
    return -FARTHEST_MOVE <= move <= FARTHEST_MOVE


def moved_row(row, right, black):
    return (row << right) & black if right >= 0 else row >> (-right)


def moved_page(page, right, down, black):
    moved = []
    for r in range(len(page)):
        source = r - down
        # Asked for on both sides, since an index below 0 would read rows from the end.
        if 0 <= source < len(page):
            moved.append(moved_row(page[source], right, black))
        else:
            moved.append(0)
    return moved


def do_move(dx, dy, w, h, x):
    right = signed(dx)
    down = signed(dy)
    if not (move_fits(right) and move_fits(down) and size_fits(w, h)):
        return [-2]
    return answer_page(w, moved_page(page_from_words(w, h, x), right, down, black_row(w)))


def reach_fits(dx, dy):
    return 0 <= dx <= FARTHEST_REACH and 0 <= dy <= FARTHEST_REACH


def wider_row(row, dx, black):
    wide = row
    for step in range(1, dx + 1):
        wide = wide | (row << step) | (row >> step)
    return wide & black


def joined_rows(rows):
    joined = 0
    for row in rows:
        joined = joined | row
    return joined


def thicker_page(page, dx, dy, black):
    wide = [wider_row(row, dx, black) for row in page]
    # The slice ends with the page by itself; only its beginning could fall below 0 and count from the end.
    return [joined_rows(wide[max(0, r - dy):r + dy + 1]) for r in range(len(wide))]


def turned_over(page, black):
    return [row ^ black for row in page]


def thinner_page(page, dx, dy, black):
    # A box has nothing but dots just where no white place of the page is in it. What lies beyond the page is in no
    # box, so the page is turned over within its width and height alone.
    return turned_over(thicker_page(turned_over(page, black), dx, dy, black), black)


def do_thicker(dx, dy, w, h, x):
    if not (reach_fits(dx, dy) and size_fits(w, h)):
        return [-2]
    return answer_page(w, thicker_page(page_from_words(w, h, x), dx, dy, black_row(w)))


def do_thinner(dx, dy, w, h, x):
    if not (reach_fits(dx, dy) and size_fits(w, h)):
        return [-2]
    return answer_page(w, thinner_page(page_from_words(w, h, x), dx, dy, black_row(w)))


def do_open(dx, dy, w, h, x):
    if not (reach_fits(dx, dy) and size_fits(w, h)):
        return [-2]
    black = black_row(w)
    thin = thinner_page(page_from_words(w, h, x), dx, dy, black)
    return answer_page(w, thicker_page(thin, dx, dy, black))


def do_close(dx, dy, w, h, x):
    if not (reach_fits(dx, dy) and size_fits(w, h)):
        return [-2]
    black = black_row(w)
    thick = thicker_page(page_from_words(w, h, x), dx, dy, black)
    return answer_page(w, thinner_page(thick, dx, dy, black))
