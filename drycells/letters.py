"""Texts in SHEETS of ROWS that are told in spite of an altered DIGIT or a lost ROW, and ALBUMS that hide them."""

from drycells.cheapest import cheapest
from drycells.digits import digit_sum, is_row, row_at, row_number, row_times
from drycells.errors import NoPaper, Unfit
from drycells.grids import is_grid, turned_grid
from drycells.hiding import can_hide, check_task, is_bar, word_against
from drycells.keys import fitting_key
from drycells.plain import as_tuple, in_tuples, is_number, many_in, power
from drycells.reading import reading
from drycells.rooms import check_rooms

# The signs, numbered so: from the blank to the tilde, without the percent sign.
SIGNS = (
    " !\"#$&'()*+,-./0123456789:;<=>?@ABCDEFGHIJKLMNOPQRSTUVWXYZ[\\]^_`abcdefghijklmnopqrstuvwxyz{|}~"
)
# How many DIGITS of each PRIME a sign has.
FIGURES = {2: 7, 3: 5, 5: 3}


def text_digits(p, text):
    """The ROW of the DIGITS of all signs of text."""
    return tuple([digit for sign in text for digit in row_at(p, FIGURES[p], _sign_number(sign))])


def _sign_number(sign):
    """The number of sign; Unfit() if it is none."""
    number = SIGNS.find(sign)
    if number < 0:
        raise Unfit()
    return number


def digits_text(p, row):
    """The text with these DIGITS; Unfit() if there is none."""
    own, size = as_tuple(row), FIGURES[p]
    if not is_row(p, own) or len(own) % size != 0:
        raise Unfit()
    numbers = [row_number(p, own[first:first + size]) for first in range(0, len(own), size)]
    if any([number >= len(SIGNS) for number in numbers]):
        raise Unfit()
    return "".join([SIGNS[number] for number in numbers])


def _is_table(p, thing):
    """Whether thing is a TABLE."""
    if not isinstance(thing, tuple) or thing == () or not isinstance(thing[0], tuple):
        return False
    return len(thing[0]) > 1 and is_grid(p, len(thing[0]), thing)


def is_sheet(p, thing):
    """Whether thing is a SHEET."""
    return _is_table(p, thing) and sheet_faults(p, thing) == ((), ())


def sheet_faults(p, table):
    """The pair of the sets of the numbers of the ROWS, and of the places, that do not add up to 0."""
    places = turned_grid(p, len(table[0]), table)
    return (_faults_of(p, table), _faults_of(p, places))


def _faults_of(p, rows):
    """The set of the numbers of those of rows that do not add up to 0."""
    return tuple([number for number, row in enumerate(rows) if digit_sum(p, row) != 0])


def _owed(p, rows):
    """The ROW with which all places of rows add up to 0."""
    return row_times(p, p - 1, [digit_sum(p, place) for place in turned_grid(p, len(rows[0]), rows)])


def sheet_of(p, many, text):
    """The SHEET of text; Unfit() if it has p ** (many - 1) signs or more."""
    if not isinstance(text, str):
        raise Unfit()
    size, asked = many - 1, rows_needed(p, many, len(text))
    digits = row_at(p, size, len(text)) + text_digits(p, text)
    digits = digits + (0,) * ((asked - 1) * size - len(digits))
    own = [digits[first:first + size] for first in range(0, len(digits), size)]
    rows = [row + row_times(p, p - 1, (digit_sum(p, row),)) for row in own]
    return tuple(rows) + (_owed(p, rows),)


def sheet_text(p, sheet):
    """The text of sheet; Unfit() if it is no SHEET, or of no text."""
    table = in_tuples(sheet)
    if not is_sheet(p, table) or len(table) < 2:
        raise Unfit()
    signs = row_number(p, table[0][:-1])
    digits = [digit for row in table[1:-1] for digit in row[:-1]]
    if signs * FIGURES[p] > len(digits):
        raise Unfit()
    text = digits_text(p, digits[:signs * FIGURES[p]])
    # As many ROWS as are needed, filled up with 0: all that must be so in a SHEET of this text, and no more.
    if sheet_of(p, len(table[0]), text) != table:
        raise Unfit()
    return text


def sheet_near(p, table):
    """The SHEET that is at most 1 apart from table; NoPaper() if there is none."""
    rows, places = sheet_faults(p, table)
    own = in_tuples(table)
    if rows == () and places == ():
        return own
    if len(rows) != 1 or len(places) != 1:
        raise NoPaper()
    number, place = rows[0], places[0]
    # The ROW and the place must owe the same: all the others add up to 0 both ways.
    digit = (own[number][place] - digit_sum(p, own[number])) % p
    row = own[number][:place] + (digit,) + own[number][place + 1:]
    return own[:number] + (row,) + own[number + 1:]


def sheet_with(p, table, row):
    """The SHEET with all ROWS of table but that of this number (else Unfit()); NoPaper() if there is none."""
    own = in_tuples(table)
    if not is_number(row) or not 0 <= row < len(own):
        raise Unfit()
    others = own[:row] + own[row + 1:]
    lost = _owed(p, others) if others != () else (0,) * len(own[row])
    sheet = own[:row] + (lost,) + own[row + 1:]
    if not is_sheet(p, sheet):
        raise NoPaper()
    return sheet


def rows_needed(p, many, signs):
    """How many ROWS the SHEET of a text of so many signs has; Unfit() if they are p ** (many - 1) or more."""
    if many < 2 or signs >= power(p, many - 1):
        raise Unfit()
    # As many as are full of signs, one more for what is left, the first and the last one.
    return (signs * FIGURES[p] + many - 2) // (many - 1) + 2


def most_signs(p, many, rows):
    """How many signs at most do with at most rows ROWS; NoPaper() if not even none."""
    if rows < 2:
        raise NoPaper()
    return min((rows - 2) * (many - 1) // FIGURES[p], power(p, many - 1) - 1)


def _album_tasks(pictures, prices, key, text):
    """The list of the triples (picture, prices, ROW) of an ALBUM; Unfit() if it is none, then TooMany()."""
    own = fitting_key(key)
    sheet = sheet_of(own[0], own[1], text)
    if many_in(pictures) != len(sheet) or many_in(prices) != len(sheet):
        raise Unfit()
    tasks = list(zip(pictures, prices, sheet))
    for picture, fees, row in tasks:
        check_task(picture, fees, own, row)
    check_rooms(own)
    return tasks


def album_hidden(pictures, prices, key, text):
    """The tuple of the first cheapest PICTURES that hide the ROWS; NoPaper() if one can't be hidden."""
    tasks = _album_tasks(pictures, prices, key, text)
    return tuple([cheapest(picture, fees, key, row) for picture, fees, row in tasks])


def album_bar(pictures, prices, key, text):
    """An ALBUM BAR; NoPaper() if there is none."""
    for number, (picture, fees, row) in enumerate(_album_tasks(pictures, prices, key, text)):
        if not can_hide(picture, fees, key, row):
            return (number, word_against(picture, fees, key, row))
    raise NoPaper()


def is_album_bar(pictures, prices, key, text, thing):
    """Whether thing is an ALBUM BAR."""
    tasks = _album_tasks(pictures, prices, key, text)
    if not isinstance(thing, tuple) or len(thing) != 2:
        return False
    number, word = thing
    if not is_number(number) or not 0 <= number < len(tasks):
        return False
    picture, fees, row = tasks[number]
    return is_bar(picture, fees, key, row, word)


def album_text(pictures, key):
    """The text of the SHEET near the READINGS; NoPaper() if none is; then Unfit() if it has no text."""
    own = _album_key(pictures, key)
    table = tuple([reading(picture, own) for picture in pictures])
    return sheet_text(own[0], sheet_near(own[0], table))


def _album_key(pictures, key):
    """The key, made of tuples; Unfit() if there are no pictures, or its READINGS are too short for a TABLE."""
    own = fitting_key(key)
    if many_in(pictures) in (None, 0) or own[1] < 2:
        raise Unfit()
    return own


def album_without(pictures, key, number):
    """The text told by all READINGS but that of number (else Unfit()); NoPaper(), then Unfit() likewise."""
    own = _album_key(pictures, key)
    if not is_number(number) or not 0 <= number < len(pictures):
        raise Unfit()
    p, many, _ = own
    table = [(0,) * many if at == number else reading(picture, own) for at, picture in enumerate(pictures)]
    return sheet_text(p, sheet_with(p, table, number))
