"""What is told by trying everything: slow and plain, and written without the package."""

import itertools

PRIMES = (2, 3, 5)


def rows_of(p, many):
    """All ROWS of many DIGITS, ascending."""
    return list(itertools.product(range(p), repeat=many))


def product_of(p, one, other):
    return sum(left * right for left, right in zip(one, other, strict=True)) % p


def sum_by(p, many, rows, digits):
    """The sum of the multiples of rows by digits."""
    pairs = list(zip(rows, digits, strict=True))
    return tuple(sum(digit * row[place] for row, digit in pairs) % p for place in range(many))


def span_of(p, many, rows):
    """All sums of multiples of rows, as a set."""
    found = {(0,) * many}
    for row in rows:
        found = {tuple((d * own + old) % p for own, old in zip(row, past)) for past in found for d in range(p)}
    return found


def rank_of(p, many, rows):
    """How many ROWS are enough to span what rows span."""
    count, rank = len(span_of(p, many, rows)), 0
    while p ** rank < count:
        rank += 1
    return rank


def grids_of(p, many, size):
    """All GRIDS of so many ROWS."""
    return list(itertools.product(rows_of(p, many), repeat=size))


def greys_in(picture):
    return tuple(grey for row in picture[1] for grey in row)


def pictures_of(top, high, wide):
    """All PICTURES of this shape."""
    for tones in itertools.product(range(top + 1), repeat=high * wide):
        yield (top, tuple(tones[place:place + wide] for place in range(0, high * wide, wide)))


def patterned(top, high, wide, step):
    """A PICTURE of this shape with GREYS that look as if at random."""
    return (top, tuple(tuple((step * (7 * row + 3) * (5 * column + 2) + row + 2 * column) % (top + 1)
                             for column in range(wide)) for row in range(high)))


def keys_of(p, many, size):
    """All KEYS of so many rows and columns."""
    return [(p, many, columns) for columns in itertools.product(rows_of(p, many), repeat=size)]


def read_rests(key, digits):
    """The READING of these RESTS."""
    p, many, columns = key
    return sum_by(p, many, columns, digits)


def read(key, picture):
    """The READING of picture."""
    return read_rests(key, [grey % key[0] for grey in greys_in(picture)])


def lots_of(size):
    """All LOTS of so many CELLS, those with fewer CELLS ahead, else ascending."""
    return [lot for many in range(size + 1) for lot in itertools.combinations(range(size), many)]


def marks_of(key, word):
    """The LOT of the CELLS that word marks."""
    return tuple(cell for cell, column in enumerate(key[2]) if product_of(key[0], word, column))


def words_of(key):
    """All WORDS of key, ascending."""
    return rows_of(key[0], key[1])[1:]


def rests_in(p, picture):
    return tuple(grey % p for grey in greys_in(picture))


def rests_kept(p, picture, prices):
    """All ROWS of RESTS with the own one of each barred CELL."""
    pairs = zip(greys_in(picture), prices, strict=True)
    return list(itertools.product(*[(grey % p,) if price is None else range(p) for grey, price in pairs]))


def hidings_of(picture, prices, key):
    """For each MESSAGE the list of the HIDING RESTS, maybe []."""
    found = {message: [] for message in rows_of(key[0], key[1])}
    for digits in rests_kept(key[0], picture, prices):
        found[read_rests(key, digits)].append(digits)
    return found


def bars_of(picture, prices, key, message):
    """All BARS."""
    p, seen = key[0], read(key, picture)
    return [word for word in words_of(key)
            if product_of(p, word, seen) != product_of(p, word, message)
            and all(prices[cell] is None for cell in marks_of(key, word))]


def hides(picture, prices, key, message, other):
    """Whether other, a PICTURE of the same shape, hides message."""
    pairs = zip(greys_in(picture), greys_in(other), prices, strict=True)
    return all(old == new or price is not None for old, new, price in pairs) and read(key, other) == message


def touched_between(one, other):
    """The LOT of the CELLS with unlike GREYS."""
    pairs = list(zip(greys_in(one), greys_in(other), strict=True))
    return tuple(cell for cell, (old, new) in enumerate(pairs) if old != new)


def cost_between(picture, other, prices):
    """The COST from picture to other; barred CELLS must not be touched."""
    pairs = zip(greys_in(picture), greys_in(other), prices, strict=True)
    return sum(abs(old - new) * price for old, new, price in pairs if old != new)


def nearest_grey(top, own, p, rest):
    """The GREY with this REST that differs least from own, of two such the lesser one."""
    return min((grey for grey in range(top + 1) if grey % p == rest), key=lambda grey: (abs(grey - own), grey))


def nearest_picture(picture, p, digits):
    """The PICTURE of the CHEAPEST GREYS for these RESTS."""
    top, rows = picture
    wide, tones = len(rows[0]), greys_in(picture)
    new = tuple(nearest_grey(top, own, p, rest) for own, rest in zip(tones, digits, strict=True))
    return (top, tuple(new[place:place + wide] for place in range(0, len(new), wide)))


def price_of(picture, prices, p, digits):
    """The COST of the CHEAPEST GREYS for these RESTS, which keep prices."""
    return cost_between(picture, nearest_picture(picture, p, digits), prices)


def open_by_words(key, place):
    """The rows that are open at place, as the document tells it word by word."""
    columns = key[2]
    return tuple(row for row in range(key[1])
                 if any(column[row] for column in columns[:place]) and any(column[row] for column in columns[place:]))


def step_by_words(key, message, cell, room, rest):
    """The ROOM behind a STEP, as the document tells it word by word; None if there is none."""
    p, many, columns = key
    for row in range(many):
        if not any(column[row] for column in columns) and message[row] != 0:
            return None
    sums = dict(zip(open_by_words(key, cell), room, strict=True))
    for row, digit in enumerate(columns[cell]):
        if digit != 0:
            sums.setdefault(row, 0)
        if row in sums:
            sums[row] = (sums[row] + rest * digit) % p
        if digit != 0 and not any(column[row] for column in columns[cell + 1:]) and sums[row] != message[row]:
            return None
    return tuple(sums[row] for row in open_by_words(key, cell + 1))


def steps_by_words(picture, prices, key, message):
    """For each CELL the list of (room, rest, room behind, price) of all STEPS from its place."""
    p, (top, _) = key[0], picture
    found = []
    for cell, (own, weight) in enumerate(zip(greys_in(picture), prices, strict=True)):
        there = []
        for room in rows_of(p, len(open_by_words(key, cell))):
            for rest in range(p):
                led = step_by_words(key, message, cell, room, rest)
                if led is not None and (weight is not None or rest == own % p):
                    there.append((room, rest, led, abs(nearest_grey(top, own, p, rest) - own) * (weight or 0)))
        found.append(there)
    return found


def slope_by_words(task):
    """For each ROOM the least price of all beginnings of ways that lead there, each one tried."""
    key, size = task[2], len(task[1])
    steps = steps_by_words(*task)
    found = [{(): 0}]
    beginnings = [((), 0)]
    for cell in range(size):
        beginnings = [(led, cost + price) for room, cost in beginnings
                      for own, _, led, price in steps[cell] if own == room]
        found.append({room: min(cost for own, cost in beginnings if own == room) for room, _ in beginnings})
    return tuple(
        tuple(costs.get(room) for room in rows_of(key[0], len(open_by_words(key, place))))
        for place, costs in enumerate(found)
    )


def weight_of(digits):
    """How many DIGITS are not 0."""
    return sum(digit != 0 for digit in digits)


def mixed(start, size, choices):
    """So many of choices, as if at random."""
    found, state = [], start * 7919 + 17
    for _ in range(size):
        state = (state * 1103515245 + 12345) % 2 ** 31
        found.append(choices[state // 65536 % len(choices)])
    return tuple(found)


def mixed_key(p, many, size, start):
    """A KEY with DIGITS as if at random."""
    digits = mixed(start, many * size, range(p))
    return (p, many, tuple(digits[place * many:place * many + many] for place in range(size)))


def mixed_picture(top, high, wide, start):
    """A PICTURE with GREYS as if at random."""
    tones = mixed(start, high * wide, range(top + 1))
    return (top, tuple(tones[place * wide:place * wide + wide] for place in range(high)))


SMALL = ((2, 0, 2), (2, 1, 3), (2, 2, 4), (2, 3, 3), (2, 3, 4), (3, 0, 1), (3, 1, 3), (3, 2, 3), (3, 2, 4), (5, 1, 2),
         (5, 1, 3), (5, 2, 2))


def small_tasks(each, prices_of=(None, None, 0, 1, 2, 5)):
    """Triples (picture, prices, key) of each PRIME, so many of each size, as if at random."""
    for p, many, size in SMALL:
        for start in range(each):
            picture = mixed_picture((4, 5, 7, 9)[start % 4], 1, size, start + 3)
            yield picture, mixed(start + 5 * size, size, prices_of), mixed_key(p, many, size, start)
