"""What is told by trying everything: slow and plain, and written without the package."""

import itertools

PRIMES = (2, 3, 5)


def rows_of(p, many):
    """All ROWS of many DIGITS, ascending."""
    return list(itertools.product(range(p), repeat=many))


def product_of(p, one, other):
    return sum(left * right for left, right in zip(one, other, strict=True)) % p


def sum_by(p, many, rows, digits):
    """The sum of the multiples of rows by digits."""
    pairs = list(zip(rows, digits, strict=True))
    return tuple(sum(digit * row[place] for row, digit in pairs) % p for place in range(many))


def span_of(p, many, rows):
    """All sums of multiples of rows, as a set."""
    found = {(0,) * many}
    for row in rows:
        found = {tuple((d * own + old) % p for own, old in zip(row, past)) for past in found for d in range(p)}
    return found


def rank_of(p, many, rows):
    """How many ROWS are enough to span what rows span."""
    count, rank = len(span_of(p, many, rows)), 0
    while p ** rank < count:
        rank += 1
    return rank


def grids_of(p, many, size):
    """All GRIDS of so many ROWS."""
    return list(itertools.product(rows_of(p, many), repeat=size))


def greys_in(picture):
    return tuple(grey for row in picture[1] for grey in row)


def pictures_of(top, high, wide):
    """All PICTURES of this shape."""
    for tones in itertools.product(range(top + 1), repeat=high * wide):
        yield (top, tuple(tones[place:place + wide] for place in range(0, high * wide, wide)))


def patterned(top, high, wide, step):
    """A PICTURE of this shape with GREYS that look as if at random."""
    return (top, tuple(tuple((step * (7 * row + 3) * (5 * column + 2) + row + 2 * column) % (top + 1)
                             for column in range(wide)) for row in range(high)))


def keys_of(p, many, size):
    """All KEYS of so many rows and columns."""
    return [(p, many, columns) for columns in itertools.product(rows_of(p, many), repeat=size)]


def read_rests(key, digits):
    """The READING of these RESTS."""
    p, many, columns = key
    return sum_by(p, many, columns, digits)


def read(key, picture):
    """The READING of picture."""
    return read_rests(key, [grey % key[0] for grey in greys_in(picture)])
