"""KEYS and BANDS: how columns lead from RESTS to MESSAGES, and which KEY tells another one."""

from drycells.digits import is_prime, is_row, row_product, sum_of_multiples
from drycells.errors import NoCell, NoPaper, TooMany, Unfit
from drycells.grids import bar_row, is_grid, is_spanned, multiples_for, turned_grid
from drycells.pictures import cells_in, is_picture, like_shape, picture_of, rests
from drycells.plain import in_tuples, is_above_most, is_number, many_in

# A PICTURE with this top has each REST of each PRIME.
PAPER_TOP = 4


def is_key(thing):
    """Whether thing is a KEY."""
    if not isinstance(thing, tuple) or len(thing) != 3:
        return False
    p, many, columns = thing
    return is_prime(p) and is_number(many) and many >= 0 and columns != () and is_grid(p, many, columns)


def is_band(thing):
    """Whether thing is a BAND."""
    if not isinstance(thing, tuple) or len(thing) != 3:
        return False
    p, many, block = thing
    if not is_prime(p) or not is_number(many) or many < 1 or not isinstance(block, tuple):
        return False
    if block == () or not is_row(p, block[0]) or block[0] == ():
        return False
    return is_grid(p, len(block[0]), block)


def is_message(key, thing):
    """Whether thing is a MESSAGE of key."""
    return is_row(key[0], thing) and len(thing) == key[1]


def is_word(key, thing):
    """Whether thing is a WORD of key."""
    return is_message(key, thing) and any(thing)


def is_lot(key, thing):
    """Whether thing is a LOT of CELLS of key."""
    if not isinstance(thing, tuple) or not all(is_number(cell) and 0 <= cell < len(key[2]) for cell in thing):
        return False
    return thing == tuple(sorted(set(thing)))


def fitting_key(key):
    """The key, made of tuples; Unfit() if it is none."""
    own = in_tuples(key)
    if not is_key(own):
        raise Unfit()
    return own


def check_small(key):
    """TooMany() if key is not small: if there are more than 729 MESSAGES of it."""
    if is_above_most(key[0], key[1]):
        raise TooMany()


def check_cells(key, lot):
    """NoCell(number) for the first of lot that is no CELL of key."""
    for cell in lot:
        if not is_number(cell) or not 0 <= cell < len(key[2]):
            raise NoCell(cell)


def band_key(band):
    """The KEY of band."""
    p, many, block = band
    size = len(block)
    return (p, many, tuple([_band_column(many, block[cell % size], cell // size) for cell in range(many * size)]))


def _band_column(many, digits, first):
    """The column of many DIGITS that has digits from row first on, as far as there are rows."""
    column = (0,) * first + tuple(digits) + (0,) * many
    return column[:many]


def band_for(key, length):
    """The BAND with this KEY whose block has ROWS of length; NoPaper() if there is none."""
    p, many, columns = in_tuples(key)
    if many == 0 or len(columns) % many != 0:
        raise NoPaper()
    # The first columns have all DIGITS of the block but those that fall away everywhere.
    block = tuple([_band_column(length, column, 0) for column in columns[:len(columns) // many]])
    if band_key((p, many, block)) != (p, many, columns):
        raise NoPaper()
    return (p, many, block)


def key_rows(key):
    """The tuple of the rows of key."""
    p, many, columns = key
    return turned_grid(p, many, columns)


def key_by_rows(p, size, rows):
    """The KEY of size columns with these rows."""
    return (p, len(rows), turned_grid(p, size, rows))


def columns_in(key):
    """How many columns key has; None if it is no triple with columns."""
    return many_in(key[2]) if many_in(key) == 3 else None


def _check_columns(one, other):
    if columns_in(one) is None or columns_in(one) != columns_in(other):
        raise Unfit()


def check_columns_and_primes(one, other):
    """Unfit() if both have not as many columns, and one p."""
    _check_columns(one, other)
    if one[0] != other[0]:
        raise Unfit()


def stacked(one, other):
    """The STACKED KEY of both; Unfit() if they have not as many columns, and one p."""
    check_columns_and_primes(one, other)
    columns = [tuple(left) + tuple(right) for left, right in zip(one[2], other[2])]
    return (one[0], one[1] + other[1], tuple(columns))


def unstacked(key, many):
    """The pair of the KEYS of the first many rows and of the others; Unfit() if key has fewer."""
    p, size, columns = key
    if size < many:
        raise Unfit()
    first = tuple([tuple(column[:many]) for column in columns])
    others = tuple([tuple(column[many:]) for column in columns])
    return ((p, many, first), (p, size - many, others))


def without_cells(key, lot):
    """The KEY without the columns of lot; Unfit() if none is left."""
    p, many, columns = key
    left = [tuple(column) for cell, column in enumerate(columns) if cell not in lot]
    if left == []:
        raise Unfit()
    return (p, many, tuple(left))


def walked(key, order):
    """The KEY whose column j is that of CELL order[j]."""
    p, many, columns = key
    return (p, many, tuple([tuple(columns[cell]) for cell in order]))


def walked_back(key, order):
    """The KEY of which key is walked by order."""
    p, many, columns = key
    places = {cell: place for place, cell in enumerate(order)}
    return (p, many, tuple([tuple(columns[places[cell]]) for cell in range(len(columns))]))


def led_key(key, rows):
    """The KEY whose row i is the sum of key's rows, multiplied by the DIGITS of rows[i]."""
    p, _, columns = key
    led = [tuple([row_product(p, row, column) for row in rows]) for column in columns]
    return (p, len(rows), tuple(led))


def marked_cells(key, word):
    """The LOT of the CELLS that word marks."""
    p, _, columns = key
    return tuple([cell for cell, column in enumerate(columns) if row_product(p, word, column) != 0])


def _read(key, picture):
    """The READING of picture by key."""
    p, many, columns = key
    return sum_of_multiples(p, many, columns, rests(picture, p))


def alike_keys(one, other):
    """Whether both have one READING of each PICTURE; Unfit() if they have not as many columns."""
    _check_columns(one, other)
    if in_tuples(one) == in_tuples(other):
        return True
    return one[1] == other[1] and not any(any(column) for column in [*one[2], *other[2]])


def parting_picture(one, other):
    """A PICTURE of which both have unlike READINGS; Unfit() as alike_keys; NoPaper() if they are alike."""
    _check_columns(one, other)
    size = len(one[2])
    # One GREY that is not 0 is enough: 1 parts unlike columns, the lesser PRIME like ones of unlike PRIMES.
    for cell in range(size):
        for grey in range(PAPER_TOP):
            picture = picture_of(PAPER_TOP, size, [grey if at == cell else 0 for at in range(size)])
            if _read(one, picture) != _read(other, picture):
                return picture
    raise NoPaper()


def is_parting_picture(one, other, thing):
    """Whether thing is a PICTURE of which both have unlike READINGS; Unfit() as alike_keys."""
    _check_columns(one, other)
    if not is_picture(thing) or cells_in(thing) != len(one[2]):
        return False
    return _read(one, thing) != _read(other, thing)


def tells(one, other):
    """Whether one tells other; Unfit() if they have not as many columns, and one p."""
    check_columns_and_primes(one, other)
    return _untold_row(one, other) is None


def _untold_row(one, other):
    """The first row of other that is no sum of multiples of one's rows; None if there is none."""
    told = key_rows(one)
    for row in key_rows(other):
        if not is_spanned(one[0], len(row), told, row):
            return row
    return None


def led_by(one, other):
    """Rows that lead one to other; Unfit() as tells; NoPaper() if there are none."""
    check_columns_and_primes(one, other)
    told = key_rows(one)
    return tuple([multiples_for(one[0], len(row), told, row) for row in key_rows(other)])


def untold(one, other):
    """Two PICTURES with one READING by one, unlike ones by other; Unfit() as tells; NoPaper() if there are none."""
    check_columns_and_primes(one, other)
    row = _untold_row(one, other)
    if row is None:
        raise NoPaper()
    size = len(row)
    # Its DIGITS taken as GREYS leave the READING by one as it is for zeros, but not that by other.
    bar = bar_row(one[0], size, key_rows(one), row)
    return (picture_of(PAPER_TOP, size, (0,) * size), picture_of(PAPER_TOP, size, bar))


def is_untold(one, other, thing):
    """Whether thing is two PICTURES as untold tells them; Unfit() as tells."""
    check_columns_and_primes(one, other)
    if not isinstance(thing, tuple) or len(thing) != 2 or not all(is_picture(part) for part in thing):
        return False
    near, far = thing
    if not like_shape(near, far) or cells_in(near) != len(one[2]):
        return False
    return _read(one, near) == _read(one, far) and _read(other, near) != _read(other, far)
