"""The calls on pages of dots.

Within this file a page is a list of rows, from above, and a row is one whole number: its bit c is the place in
column c. So a row is moved, joined and turned over as a whole, wherever its words begin and end.

Where a place is asked about its neighbours the page is a sheet: one whole number with all rows, behind each a white
column. A neighbour is then the same number of bits away from every place, and beyond a row's end lies white.
"""

LONGEST_SIDE = 256
FARTHEST_MOVE = 256
FARTHEST_REACH = 32
LAST_TABLE = 255
LAST_PATTERN = 511
MOST_TO_KEEP = 9
# The eight as a clock goes, by their numbers among the nine.
CLOCK = (1, 2, 5, 8, 7, 6, 3, 0)
WORD_BITS = 32
WORD_FULL = 4294967295
FIRST_NEGATIVE = 2147483648


def size_fits(w, h):
    return 1 <= w <= LONGEST_SIDE and 1 <= h <= LONGEST_SIDE


def words_in_row(w):
    return (w + WORD_BITS - 1) // WORD_BITS


def black_row(w):
    return (1 << w) - 1


def row_from_words(words):
    row = 0
    for k, word in enumerate(words):
        row = row | (word << (WORD_BITS * k))
    return row


def page_from_words(w, h, x):
    width = words_in_row(w)
    # Bits behind the last column may be anything in x; from here on every row is free of them.
    black = black_row(w)
    return [row_from_words(x[r * width:(r + 1) * width]) & black for r in range(h)]


def words_from_page(w, page):
    words = []
    for row in page:
        for k in range(words_in_row(w)):
            words.append((row >> (WORD_BITS * k)) & WORD_FULL)
    return words


def answer_page(w, page):
    return [0] + words_from_page(w, page)


def row_places(row, w):
    return [(row >> c) & 1 for c in range(w)]


def column_places(page, c):
    return [(row >> c) & 1 for row in page]


def row_from_bytes(row_bytes):
    row = 0
    for c, byte in enumerate(row_bytes):
        if byte != 0:
            row = row | (1 << c)
    return row


def do_pack(w, b):
    # The width goes first: without it there is no telling how many rows b has.
    if not 1 <= w <= LONGEST_SIDE:
        return [-2]
    h = len(b) // w
    if not size_fits(w, h):
        return [-2]
    return answer_page(w, [row_from_bytes(b[r * w:(r + 1) * w]) for r in range(h)])


def do_spread(w, h, x):
    if not size_fits(w, h):
        return [-2]
    answer = [0]
    for row in page_from_words(w, h, x):
        answer.extend(row_places(row, w))
    return answer


def where_equal(row, bit, black):
    # Turning over within the width alone keeps the bits behind the last column 0.
    return row if bit == 1 else row ^ black


def three_rows(t, black, a, b, c):
    row = 0
    for k in range(8):
        if (t >> k) & 1 == 1:
            both = where_equal(a, k >> 2, black) & where_equal(b, (k >> 1) & 1, black)
            row = row | (both & where_equal(c, k & 1, black))
    return row


def do_three(t, w, h, x, y, z):
    if not (0 <= t <= LAST_TABLE and size_fits(w, h)):
        return [-2]
    black = black_row(w)
    first = page_from_words(w, h, x)
    second = page_from_words(w, h, y)
    third = page_from_words(w, h, z)
    return answer_page(w, [three_rows(t, black, first[r], second[r], third[r]) for r in range(h)])


def signed(number):
    # Moves are handed in modulo 2 ** 32.
    return number - WORD_FULL - 1 if number >= FIRST_NEGATIVE else number


def move_fits(move):
    return -FARTHEST_MOVE <= move <= FARTHEST_MOVE


def moved_row(row, right, black):
    return (row << right) & black if right >= 0 else row >> (-right)


def moved_page(page, right, down, black):
    h = len(page)
    # Asked for on both sides, since an index below 0 would read rows from the end.
    return [moved_row(page[r - down], right, black) if 0 <= r - down < h else 0 for r in range(h)]


def do_move(dx, dy, w, h, x):
    right = signed(dx)
    down = signed(dy)
    if not (move_fits(right) and move_fits(down) and size_fits(w, h)):
        return [-2]
    return answer_page(w, moved_page(page_from_words(w, h, x), right, down, black_row(w)))


def reach_fits(dx, dy):
    return 0 <= dx <= FARTHEST_REACH and 0 <= dy <= FARTHEST_REACH


def wider_row(row, dx, black):
    wide = row
    for step in range(1, dx + 1):
        wide = wide | (row << step) | (row >> step)
    return wide & black


def joined_rows(rows):
    joined = 0
    for row in rows:
        joined = joined | row
    return joined


def thicker_page(page, dx, dy, black):
    wide = [wider_row(row, dx, black) for row in page]
    # The slice ends with the page by itself; only its beginning could fall below 0 and count from the end.
    return [joined_rows(wide[max(0, r - dy):r + dy + 1]) for r in range(len(wide))]


def turned_over(page, black):
    return [row ^ black for row in page]


def thinner_page(page, dx, dy, black):
    # A box has nothing but dots just where no white place of the page is in it. What lies beyond the page is in no
    # box, so the page is turned over within its width and height alone.
    return turned_over(thicker_page(turned_over(page, black), dx, dy, black), black)


def do_thicker(dx, dy, w, h, x):
    if not (reach_fits(dx, dy) and size_fits(w, h)):
        return [-2]
    return answer_page(w, thicker_page(page_from_words(w, h, x), dx, dy, black_row(w)))


def do_thinner(dx, dy, w, h, x):
    if not (reach_fits(dx, dy) and size_fits(w, h)):
        return [-2]
    return answer_page(w, thinner_page(page_from_words(w, h, x), dx, dy, black_row(w)))


def do_open(dx, dy, w, h, x):
    # What the first refuses the second refuses too, since both have the same ranges and look at them first.
    return do_thicker(dx, dy, w, h, do_thinner(dx, dy, w, h, x)[1:])


def do_close(dx, dy, w, h, x):
    # As with do_open, a refusal comes through.
    return do_thinner(dx, dy, w, h, do_thicker(dx, dy, w, h, x)[1:])


def sheet_from_page(w, page):
    sheet = 0
    for r, row in enumerate(page):
        sheet = sheet | (row << (r * (w + 1)))
    return sheet


def page_from_sheet(w, h, sheet):
    black = black_row(w)
    return [(sheet >> (r * (w + 1))) & black for r in range(h)]


def sheet_seen_from(sheet, steps):
    # The place that is so many steps on comes to lie under the place itself.
    return sheet >> steps if steps >= 0 else sheet << (-steps)


def nine_of(w, sheet):
    return [sheet_seen_from(sheet, (k // 3 - 1) * (w + 1) + k % 3 - 1) for k in range(9)]


def eight_of(w, sheet):
    nine = nine_of(w, sheet)
    return [nine[k] for k in CLOCK]


def fitting_places(nine, black, white, places):
    fitting = places
    for k, near in enumerate(nine):
        if (black >> k) & 1 == 1:
            fitting = fitting & near
        if (white >> k) & 1 == 1:
            fitting = fitting & (near ^ places)
    return fitting


def do_fit(black, white, w, h, x):
    if not (0 <= black <= LAST_PATTERN and 0 <= white <= LAST_PATTERN and size_fits(w, h)):
        return [-2]
    nine = nine_of(w, sheet_from_page(w, page_from_words(w, h, x)))
    places = sheet_from_page(w, [black_row(w)] * h)
    return answer_page(w, page_from_sheet(w, h, fitting_places(nine, black, white, places)))


def where_enough(sheets, places):
    """Gives for each k, up to one more than there are sheets, those of the places where k sheets or more are black."""
    enough = [places] + [0] * (len(sheets) + 1)
    for seen, sheet in enumerate(sheets):
        # From above, so that a sheet is counted once.
        for k in range(seen + 1, 0, -1):
            enough[k] = enough[k] | (enough[k - 1] & sheet)
    return enough


def do_keep(k, w, h, x):
    if not (0 <= k <= MOST_TO_KEEP and size_fits(w, h)):
        return [-2]
    sheet = sheet_from_page(w, page_from_words(w, h, x))
    return answer_page(w, page_from_sheet(w, h, where_enough(eight_of(w, sheet), sheet)[k]))


def without(sheet, gone):
    return sheet ^ (sheet & gone)


def dots_that_may_go(eight, sheet):
    black = where_enough(eight, sheet)
    # A black one follows a white one where the next is black without this one.
    follows = where_enough([without(eight[(k + 1) % 8], eight[k]) for k in range(8)], sheet)
    return without(black[2], black[7]) & without(follows[1], follows[2])


def half_a_round(w, sheet, first, second):
    eight = eight_of(w, sheet)
    going = dots_that_may_go(eight, sheet)
    for three in (first, second):
        going = without(going, eight[three[0]] & eight[three[1]] & eight[three[2]])
    return without(sheet, going)


def whole_round(w, sheet):
    return half_a_round(w, half_a_round(w, sheet, (0, 2, 4), (2, 4, 6)), (0, 2, 6), (0, 4, 6))


def do_thin(w, h, x):
    if not size_fits(w, h):
        return [-2]
    rounds = 0
    sheet = sheet_from_page(w, page_from_words(w, h, x))
    left = whole_round(w, sheet)
    while left != sheet:
        rounds = rounds + 1
        sheet = left
        left = whole_round(w, sheet)
    return [rounds] + words_from_page(w, page_from_sheet(w, h, sheet))


def do_counts(w, h, x):
    if not size_fits(w, h):
        return [-2]
    page = page_from_words(w, h, x)
    columns = [sum(column_places(page, c)) for c in range(w)]
    rows = [sum(row_places(row, w)) for row in page]
    return [sum(rows), w] + columns + [h] + rows


def do_runs(r, w, h, x):
    if not (size_fits(w, h) and 0 <= r < h):
        return [-2]
    row = page_from_words(w, h, x)[r]
    # A place that isn't like the one to its left begins a run or, the next time, lies just behind it.
    changes = [c for c, change in enumerate(row_places(row ^ (row << 1), w + 1)) if change == 1]
    count = len(changes) // 2
    lengths = [changes[2 * k + 1] - changes[2 * k] for k in range(count)]
    return [count, count] + changes[0::2] + [count] + lengths


def quarter_turned(w, page):
    # The column of the first row is the last, so each new row is a column read from below.
    return [row_from_bytes(column_places(page, c)[::-1]) for c in range(w)]


def do_turn(q, w, h, x):
    if not (0 <= q <= 3 and size_fits(w, h)):
        return [-2]
    wide = w
    page = page_from_words(w, h, x)
    for quarter in range(q):
        high = len(page)
        page = quarter_turned(wide, page)
        wide = high
    return answer_page(wide, page)


def do_mirror(w, h, x):
    if not size_fits(w, h):
        return [-2]
    return answer_page(w, [row_from_bytes(row_places(row, w)[::-1]) for row in page_from_words(w, h, x)])


def half_row(k, w, above, below):
    enough = where_enough([above, above >> 1, below, below >> 1], black_row(w))[k]
    return row_from_bytes(row_places(enough, w - w % 2)[0::2])


def do_half(k, w, h, x):
    if not (1 <= k <= 4 and size_fits(w, h)):
        return [-2]
    page = page_from_words(w, h, x)
    return answer_page(w // 2, [half_row(k, w, page[2 * r], page[2 * r + 1]) for r in range(h // 2)])


def doubled_row(row, w):
    return row_from_bytes([(row >> (c // 2)) & 1 for c in range(2 * w)])


def do_double(w, h, x):
    if not size_fits(w, h):
        return [-2]
    page = [doubled_row(row, w) for row in page_from_words(w, h, x)]
    return answer_page(2 * w, [page[r // 2] for r in range(2 * h)])


def do_box(w, h, x):
    if not size_fits(w, h):
        return [-2]
    page = page_from_words(w, h, x)
    rows = [r for r, row in enumerate(page) if row != 0]
    if len(rows) == 0:
        return [-6]
    columns = [c for c, place in enumerate(row_places(joined_rows(page), w)) if place == 1]
    return [0, columns[0], rows[0], columns[-1] - columns[0] + 1, rows[-1] - rows[0] + 1]


def do_cut(x0, y0, uu, vv, w, h, x):
    if not (size_fits(w, h) and 1 <= uu <= w - x0 and 1 <= vv <= h - y0):
        return [-2]
    page = page_from_words(w, h, x)
    return answer_page(uu, [(row >> x0) & black_row(uu) for row in page[y0:y0 + vv]])


def do_apart(w, h, x, y):
    if not size_fits(w, h):
        return [-2]
    first = page_from_words(w, h, x)
    second = page_from_words(w, h, y)
    return [sum([sum(row_places(first[r] ^ second[r], w)) for r in range(h)])]


def do_table1(t, a, b, c):
    # A word is a row without a bit behind its last column, and of t no more than eight bits are looked at.
    return [three_rows(t, WORD_FULL, a, b, c)]
