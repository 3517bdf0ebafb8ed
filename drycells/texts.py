"""Texts of PICTURES, PRICES, KEYS, CASES and touched CELLS: written in one way, and read back line by line."""

from drycells.digits import is_digit, is_prime
from drycells.errors import BadLine, BadText
from drycells.pictures import (
    GREATEST_TOP, LEAST_TOP, cells_in, grey_at, greys, is_grey, touched_cells, with_grey,
)
from drycells.plain import in_tuples

FIGURES = "0123456789"
PRICES_IN_LINE = 16
COLUMNS_IN_LINE = 8


def lines_of(text):
    """The list of the lines of text."""
    return [] if text == "" else text.split("\n")


def is_figures(word):
    """Whether word is a number from 0, written without a needless 0."""
    if word == "" or any([sign not in FIGURES for sign in word]):
        return False
    return word == "0" or word[0] != "0"


def _is_number_word(word):
    """Whether word is a number, maybe below 0."""
    return is_figures(word) or word[:1] == "-" and word != "-0" and is_figures(word[1:])


def words_behind(line):
    """The words of a line with one blank ahead; [""], which are none, if it has no blank ahead."""
    return line[1:].split(" ") if line[:1] == " " else [""]


def _blank_line(words):
    """The line of words with a blank ahead."""
    return " " + " ".join(words)


def _packed_lines(words, size):
    """The lines of words, so many in each, in the last one the others."""
    return [_blank_line(words[first:first + size]) for first in range(0, len(words), size)]


def row_text(row):
    """The DIGITS of row."""
    return "-" if len(row) == 0 else "".join([str(digit) for digit in row])


def read_row(p, text):
    """The ROW of p with these DIGITS; BadText(place) of the first sign with which text so far begins none."""
    if text == "":
        raise BadText(0)
    if text[0] == "-":
        if len(text) > 1:
            raise BadText(1)
        return ()
    for place, sign in enumerate(text):
        if not _is_digit_sign(p, sign):
            raise BadText(place)
    return tuple([int(sign) for sign in text])


def _is_digit_sign(p, sign):
    return sign in FIGURES and is_digit(p, int(sign))


def _is_row_word(p, many, word):
    """Whether word is the DIGITS of a ROW of many DIGITS of p."""
    if many == 0:
        return word == "-"
    return len(word) == many and all([_is_digit_sign(p, sign) for sign in word])


def picture_text(picture):
    """The text of picture."""
    top, rows = picture
    return "\n".join([f"picture {top}"] + [_blank_line([str(grey) for grey in row]) for row in rows])


def prices_text(prices):
    """The text of prices."""
    return "\n".join(["prices"] + _packed_lines([_or_dash(price) for price in prices], PRICES_IN_LINE))


def _or_dash(value):
    """The number value in figures, - for None."""
    return "-" if value is None else str(value)


def key_text(key):
    """The text of key."""
    p, many, columns = key
    return "\n".join([f"key {p} {many}"] + _packed_lines([row_text(column) for column in columns], COLUMNS_IN_LINE))


def slope_text(slope):
    """The text of slope."""
    return "\n".join(["slope"] + [_blank_line([_or_dash(height) for height in heights]) for heights in slope])


def case_text(case):
    """The text of case."""
    if case[0] == "barred":
        return f"barred {row_text(case[1])}"
    return "\n".join(["hidden", picture_text(case[1]), slope_text(case[2])])


def _picture_in(lines, first):
    """The pair of the PICTURE whose lines begin at first, and of the place behind them; BadLine(number)."""
    top = _top_in(lines[first]) if first < len(lines) else None
    if top is None:
        raise BadLine(first + 1)
    rows, place = [], first + 1
    while place < len(lines) and _is_grey_line(top, rows, words_behind(lines[place])):
        rows.append(tuple([int(word) for word in words_behind(lines[place])]))
        place += 1
    if rows == []:
        raise BadLine(place + 1)
    return ((top, tuple(rows)), place)


def _top_in(line):
    """The top that the first line of a PICTURE tells; None if it is none."""
    words = line.split(" ")
    if len(words) != 2 or words[0] != "picture" or not is_figures(words[1]):
        return None
    return int(words[1]) if LEAST_TOP <= int(words[1]) <= GREATEST_TOP else None


def _is_grey_line(top, rows, words):
    """Whether words are a row of GREYS as long as those of rows."""
    if rows != [] and len(words) != len(rows[0]):
        return False
    return all([is_figures(word) and is_grey(top, int(word)) for word in words])


def _slope_in(lines, first):
    """The pair of the SLOPE whose lines begin at first, and of the place behind them; BadLine(number)."""
    if first >= len(lines) or lines[first] != "slope":
        raise BadLine(first + 1)
    slope, place = [], first + 1
    while place < len(lines) and _are_heights(words_behind(lines[place])):
        slope.append(tuple([_number_or_none(word) for word in words_behind(lines[place])]))
        place += 1
    if slope == []:
        raise BadLine(place + 1)
    return (tuple(slope), place)


def _are_heights(words):
    return all([word == "-" or _is_number_word(word) for word in words])


def _number_or_none(word):
    return None if word == "-" else int(word)


def _check_ended(lines, place):
    """BadLine(number) if there are lines behind place."""
    if place < len(lines):
        raise BadLine(place + 1)


def read_picture(text):
    """The PICTURE with this text; BadLine(number) of the first line with which text so far begins none, or wanting."""
    lines = lines_of(text)
    picture, place = _picture_in(lines, 0)
    _check_ended(lines, place)
    return picture


def read_slope(text):
    """The SLOPE with this text; BadLine(number) as read_picture."""
    lines = lines_of(text)
    slope, place = _slope_in(lines, 0)
    _check_ended(lines, place)
    return slope


def _packed_in(lines, size, is_fit):
    """The list of the words of all lines but the first, each one fit, so many in each line; BadLine(number)."""
    found = []
    for place in range(1, len(lines)):
        words = words_behind(lines[place])
        is_full_ahead = len(found) == (place - 1) * size
        if not is_full_ahead or len(words) > size or not all([is_fit(word) for word in words]):
            raise BadLine(place + 1)
        found += words
    if found == []:
        raise BadLine(2)
    return found


def read_prices(text):
    """The PRICES with this text; BadLine(number) as read_picture."""
    lines = lines_of(text)
    if lines == [] or lines[0] != "prices":
        raise BadLine(1)
    return tuple([_number_or_none(word) for word in _packed_in(lines, PRICES_IN_LINE, _is_price_word)])


def _is_price_word(word):
    return word == "-" or is_figures(word)


def read_key(text):
    """The KEY with this text; BadLine(number) as read_picture."""
    lines = lines_of(text)
    words = lines[0].split(" ") if lines != [] else []
    if len(words) != 3 or words[0] != "key" or not is_figures(words[1]) or not is_figures(words[2]):
        raise BadLine(1)
    p, many = int(words[1]), int(words[2])
    if not is_prime(p):
        raise BadLine(1)
    columns = _packed_in(lines, COLUMNS_IN_LINE, lambda word: _is_row_word(p, many, word))
    return (p, many, tuple([read_row(p, column) for column in columns]))


def read_case(p, text):
    """The CASE with this text, a word in it a WORD of p; BadLine(number) as read_picture."""
    lines = lines_of(text)
    if lines == []:
        raise BadLine(1)
    if lines[0] == "hidden":
        picture, behind = _picture_in(lines, 1)
        slope, place = _slope_in(lines, behind)
        _check_ended(lines, place)
        return ("hidden", picture, slope)
    word = _barring_word_in(p, lines[0])
    _check_ended(lines, 1)
    return ("barred", word)


def _barring_word_in(p, line):
    """The WORD that the line of a CASE that is barred tells; BadLine(1) if it is none."""
    words = line.split(" ")
    if len(words) != 2 or words[0] != "barred" or not _is_row_word(p, len(words[1]), words[1]):
        raise BadLine(1)
    word = read_row(p, words[1])
    if not any(word):
        raise BadLine(1)
    return word


def touched_text(one, other):
    """The lines of the CELLS touched from one to other; Unfit() if they are not like in shape."""
    return "\n".join([f" {cell} {grey_at(other, cell)}" for cell in touched_cells(one, other)])


def with_touched(picture, text):
    """The picture with these GREYS; BadLine(number) for the first line that tells no such CELL behind those ahead."""
    least, shown = 0, in_tuples(picture)
    for place, line in enumerate(lines_of(text)):
        words = words_behind(line)
        if len(words) != 2 or not is_figures(words[0]) or not is_figures(words[1]):
            raise BadLine(place + 1)
        cell, grey = int(words[0]), int(words[1])
        if not least <= cell < cells_in(picture) or not is_grey(picture[0], grey) or grey == greys(picture)[cell]:
            raise BadLine(place + 1)
        least, shown = cell + 1, with_grey(shown, cell, grey)
    return shown
