"""What is left to hide, whichever CELLS are barred: WORDS that bar, and the papers that none does."""

from drycells.digits import all_rows, is_row, marked_places, row_sum, sum_of_multiples, unit_row
from drycells.errors import NoPaper
from drycells.grids import grid_rank, multiples_for, span_count, spanned_rows, unmarked_rows
from drycells.keys import check_cells, check_small, is_lot, is_word, marked_cells
from drycells.plain import is_part
from drycells.reading import check_picture, reading


def _words_marks(key):
    """The list of the pairs (WORD, LOT that it marks), WORDS ascending; TooMany() if key is not small."""
    return [(word, marked_cells(key, word)) for word in all_rows(key[0], key[1]) if any(word)]


def _open_cells(key, lot):
    """The list of the CELLS that are not in lot."""
    return [cell for cell in range(len(key[2])) if cell not in lot]


def _open_columns(key, lot):
    """The list of the columns of the CELLS that are not in lot."""
    return [key[2][cell] for cell in _open_cells(key, lot)]


def marks_counted(key):
    """The tuple of how many WORDS mark 0, 1, .. to all CELLS; TooMany()."""
    sizes = [len(marks) for _, marks in _words_marks(key)]
    return tuple([sizes.count(number) for number in range(len(key[2]) + 1)])


def _shortest(key):
    """The list of those of _words_marks that mark the fewest CELLS; TooMany()."""
    found = _words_marks(key)
    fewest = min([len(marks) for _, marks in found], default=0)
    return [(word, marks) for word, marks in found if len(marks) == fewest]


def shortest_words(key):
    """The set of the WORDS that mark the fewest CELLS; () if there are no WORDS; TooMany()."""
    return tuple([word for word, _ in _shortest(key)])


def most_barred(key):
    """The greatest number, to n, of which no LOT of so many CELLS bars; None if () does; TooMany()."""
    found = _shortest(key)
    if found == []:
        return len(key[2])
    fewest = len(found[0][1])
    return fewest - 1 if fewest > 0 else None


def bars(key, lot):
    """Whether lot bars; NoCell(number) of the first in it that is none, here and below."""
    check_cells(key, lot)
    return grid_rank(key[0], key[1], _open_columns(key, lot)) < key[1]


def barring_word(key, lot):
    """A WORD that marks CELLS of lot alone, or none; NoPaper() if there is none."""
    check_cells(key, lot)
    words = unmarked_rows(key[0], key[1], _open_columns(key, lot))
    if words == ():
        raise NoPaper()
    return words[0]


def is_barring_word(key, lot, thing):
    """Whether thing is a WORD that marks CELLS of lot alone, or none."""
    check_cells(key, lot)
    return is_word(key, thing) and is_part(marked_cells(key, thing), lot)


def all_paper(key, lot):
    """An ALL PAPER for lot; NoPaper() if there is none."""
    check_cells(key, lot)
    return tuple([_unit_multiples(key, lot, place) for place in range(key[1])])


def _unit_multiples(key, lot, place):
    """MULTIPLES that use no CELL of lot, with 1 at place alone in their sum; NoPaper() if there are none."""
    p, many, columns = key
    digits = [0] * len(columns)
    found = multiples_for(p, many, _open_columns(key, lot), unit_row(many, place))
    for cell, digit in zip(_open_cells(key, lot), found):
        digits[cell] = digit
    return tuple(digits)


def is_all_paper(key, lot, thing):
    """Whether thing is an ALL PAPER for lot."""
    check_cells(key, lot)
    if not isinstance(thing, tuple) or len(thing) != key[1]:
        return False
    return all(_is_unit_multiples(key, lot, place, part) for place, part in enumerate(thing))


def _is_unit_multiples(key, lot, place, thing):
    """Whether thing is MULTIPLES that use no CELL of lot, with 1 at place alone in their sum."""
    p, many, columns = key
    if not is_row(p, thing) or len(thing) != len(columns) or any(cell in lot for cell in marked_places(thing)):
        return False
    return sum_of_multiples(p, many, columns, thing) == unit_row(many, place)


def left_many(key, lot):
    """How many MESSAGES can be hidden if the CELLS of lot are barred."""
    check_cells(key, lot)
    return span_count(key[0], key[1], _open_columns(key, lot))


def left_messages(picture, key, lot):
    """The set of the MESSAGES that can be hidden so; Unfit(), then NoCell(number), then TooMany()."""
    check_picture(picture, key)
    check_cells(key, lot)
    check_small(key)
    seen = reading(picture, key)
    return tuple(sorted([row_sum(key[0], seen, row) for row in spanned_rows(key[0], key[1], _open_columns(key, lot))]))


def left_words(key, lot):
    """The set of the WORDS that mark CELLS of lot alone, or none; TooMany(), behind NoCell(number)."""
    check_cells(key, lot)
    check_small(key)
    words = unmarked_rows(key[0], key[1], _open_columns(key, lot))
    return tuple([word for word in spanned_rows(key[0], key[1], words) if any(word)])


def bare_lots(key):
    """The set of the LOTS that bar, but no longer with any one CELL less; TooMany()."""
    # A LOT bars exactly if all that some WORD marks is in it.
    lots = sorted({marks for _, marks in _words_marks(key)})
    return tuple([lot for lot in lots if not any(is_part(other, lot) for other in lots if other != lot)])


def least_lots(key):
    """The set of those of bare_lots with the fewest CELLS; TooMany()."""
    return tuple(sorted({marks for _, marks in _shortest(key)}))


def any_paper(key, number):
    """A tuple with, for each WORD, ascending, a LOT of number + 1 CELLS that it marks; TooMany(); NoPaper()."""
    found = _words_marks(key)
    if any(len(marks) <= number for _, marks in found):
        raise NoPaper()
    return tuple([marks[:number + 1] for _, marks in found])


def is_any_paper(key, number, thing):
    """Whether thing is such a tuple; TooMany()."""
    found = _words_marks(key)
    if not isinstance(thing, tuple) or len(thing) != len(found):
        return False
    return all(
        is_lot(key, lot) and len(lot) == number + 1 and is_part(lot, marks) for lot, (_, marks) in zip(thing, found)
    )


def worst_lot(key, number):
    """A LOT of at most number CELLS that bars; TooMany(); NoPaper() if there is none."""
    lots = least_lots(key)
    if lots == () or len(lots[0]) > number:
        raise NoPaper()
    return lots[0]


def is_worst_lot(key, number, thing):
    """Whether thing is a LOT of at most number CELLS that bars; TooMany()."""
    check_small(key)
    return is_lot(key, thing) and len(thing) <= number and bars(key, thing)
