"""Whether a PICTURE can hide a MESSAGE: HIDING RESTS, or a BAR."""

from drycells.digits import is_row, led_rows, row_product, row_sum, row_times
from drycells.errors import NoPaper, Unfit
from drycells.grids import (
    bar_row, grid_rank, is_spanned, multiples_for, relations, span_count, spanned_rows, ways_count,
)
from drycells.keys import check_cells, check_small, columns_in, is_word, marked_cells
from drycells.pictures import is_picture, like_shape, rests
from drycells.plain import many_in
from drycells.prices import barred_cells, barred_touched, check_prices, free_cells, with_rests
from drycells.reading import check_message, lack, reading, reading_of_rests


def check_priced(picture, prices, key):
    """Unfit() if prices or columns are not as many as CELLS."""
    check_prices(picture, prices)
    if columns_in(key) != len(prices):
        raise Unfit()


def check_task(picture, prices, key, message):
    """Unfit() if prices or columns are not as many as CELLS, or message is none of key."""
    check_priced(picture, prices, key)
    check_message(key, message)


def _free_columns(prices, key):
    """The list of the columns of the free CELLS."""
    return [key[2][cell] for cell in free_cells(prices)]


def can_hide(picture, prices, key, message):
    """Whether some PICTURE hides message; Unfit() if they do not go together, here and below."""
    check_task(picture, prices, key, message)
    return is_spanned(key[0], key[1], _free_columns(prices, key), lack(picture, key, message))


def hiding_rests(picture, prices, key, message):
    """HIDING RESTS; NoPaper() if there are none."""
    check_task(picture, prices, key, message)
    p, many, _ = key
    turns = multiples_for(p, many, _free_columns(prices, key), lack(picture, key, message))
    digits = list(rests(picture, p))
    for cell, turn in zip(free_cells(prices), turns):
        digits[cell] = (digits[cell] + turn) % p
    return tuple(digits)


def is_hiding_rests(picture, prices, key, message, thing):
    """Whether thing is HIDING RESTS."""
    check_task(picture, prices, key, message)
    if not is_row(key[0], thing) or len(thing) != len(prices):
        return False
    own = rests(picture, key[0])
    if any(thing[cell] != own[cell] for cell in barred_cells(prices)):
        return False
    return reading_of_rests(key, thing) == tuple(message)


def hiding_picture(picture, prices, key, message):
    """A PICTURE that hides message; NoPaper() if there is none."""
    return with_rests(picture, key[0], hiding_rests(picture, prices, key, message))


def is_hiding(picture, prices, key, message, thing):
    """Whether thing is a PICTURE that hides message."""
    check_task(picture, prices, key, message)
    if not is_picture(thing) or not like_shape(picture, thing):
        return False
    return barred_touched(picture, thing, prices) == () and reading(thing, key) == tuple(message)


def word_against(picture, prices, key, message):
    """A BAR; NoPaper() if message can be hidden."""
    check_task(picture, prices, key, message)
    return bar_row(key[0], key[1], _free_columns(prices, key), lack(picture, key, message))


def is_bar(picture, prices, key, message, thing):
    """Whether thing is a BAR."""
    check_task(picture, prices, key, message)
    if not is_word(key, thing) or row_product(key[0], thing, lack(picture, key, message)) == 0:
        return False
    return _marked_free(prices, key, thing) == ()


def _marked_free(prices, key, word):
    """The set of the free CELLS that word marks."""
    free = free_cells(prices)
    return tuple([cell for cell in marked_cells(key, word) if cell in free])


def how_many_rests(picture, prices, key, message):
    """How many HIDING RESTS there are."""
    check_task(picture, prices, key, message)
    return ways_count(key[0], key[1], _free_columns(prices, key), lack(picture, key, message))


def rests_there(picture, prices, key, message, cell):
    """The set of the RESTS that cell has in HIDING RESTS; NoCell(cell), behind Unfit()."""
    check_task(picture, prices, key, message)
    check_cells(key, (cell,))
    if not can_hide(picture, prices, key, message):
        return ()
    if cell in _loose_cells(prices, key):
        return tuple(range(key[0]))
    return (hiding_rests(picture, prices, key, message)[cell],)


def _loose_cells(prices, key):
    """The set of the CELLS that have each REST in some HIDING RESTS, if there are any."""
    p, many, _ = key
    ties = relations(p, many, _free_columns(prices, key))
    return tuple([cell for at, cell in enumerate(free_cells(prices)) if any(tie[at] for tie in ties)])


def _tied_cells(prices, key):
    """The set of the free CELLS that have one REST in all HIDING RESTS."""
    loose = _loose_cells(prices, key)
    return tuple([cell for cell in free_cells(prices) if cell not in loose])


def kept_always(picture, prices, key, message):
    """The set of the free CELLS with their own REST in all HIDING RESTS; NoPaper() if there are none."""
    digits, own = hiding_rests(picture, prices, key, message), rests(picture, key[0])
    return tuple([cell for cell in _tied_cells(prices, key) if digits[cell] == own[cell]])


def moved_always(picture, prices, key, message):
    """The set of the free CELLS with another REST in all HIDING RESTS; NoPaper() if there are none."""
    digits, own = hiding_rests(picture, prices, key, message), rests(picture, key[0])
    return tuple([cell for cell in _tied_cells(prices, key) if digits[cell] != own[cell]])


def _check_columns_priced(prices, key):
    if many_in(prices) is None or many_in(prices) != columns_in(key):
        raise Unfit()


def how_many_hidden(prices, key):
    """How many MESSAGES can be hidden in a PICTURE; Unfit() if prices are not as many as columns."""
    _check_columns_priced(prices, key)
    return span_count(key[0], key[1], _free_columns(prices, key))


def always_hides(prices, key):
    """Whether each MESSAGE can be hidden in each PICTURE; Unfit() if prices are not as many as columns."""
    _check_columns_priced(prices, key)
    return grid_rank(key[0], key[1], _free_columns(prices, key)) == key[1]


def least_freed(picture, prices, key, message):
    """The least set of barred CELLS to free; TooMany(), behind Unfit(); NoPaper() if all of them are not enough."""
    check_task(picture, prices, key, message)
    check_small(key)
    p, many, columns = key
    # For each ROW that can be had the least set of CELLS by which it can be.
    least = {row: () for row in spanned_rows(p, many, _free_columns(prices, key))}
    for cell in reversed(barred_cells(prices)):
        least = _with_freed(p, least, cell, columns[cell])
    aim = lack(picture, key, message)
    if aim not in least:
        raise NoPaper()
    return least[aim]


def _with_freed(p, least, cell, column):
    """The least sets, if cell, ahead of all in them, can be freed, too."""
    further = {row: least[row] for row in least}
    turns = [row_times(p, digit, column) for digit in range(1, p)]
    for row, lot in least.items():
        for turn in turns:
            led, freed = row_sum(p, row, turn), (cell,) + lot
            if led not in further or (len(freed), freed) < (len(further[led]), further[led]):
                further[led] = freed
    return further


def least_to_bar(picture, prices, key, message):
    """The least set of free CELLS to bar; TooMany(), behind Unfit(); NoPaper() if message is the READING."""
    check_task(picture, prices, key, message)
    p, many, _ = key
    aim = lack(picture, key, message)
    # Each BAR that may come marks no free CELL any more: all that it marks are to be barred.
    words = [word for word in led_rows(p, many) if row_product(p, word, aim) != 0]
    if words == []:
        raise NoPaper()
    lots = [_marked_free(prices, key, word) for word in words]
    return min([(len(lot), lot) for lot in lots])[1]
