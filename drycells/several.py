"""Several KEYS in one PICTURE: all their MESSAGES at once, or a CLASH; one MESSAGE shown and another one denied."""

from itertools import combinations

from drycells.anylots import barring_word, bars, is_barring_word
from drycells.cheapest import cheapest
from drycells.digits import inverse_digit, row_sum, row_times
from drycells.errors import NoPaper, Unfit
from drycells.grids import unmarked_rows
from drycells.hiding import can_hide, is_bar, word_against
from drycells.keys import check_columns_and_primes, fitting_key, is_key, is_lot, is_message, stacked
from drycells.pictures import rests
from drycells.plain import as_tuple, in_tuples, is_number, many_in
from drycells.prices import check_prices
from drycells.reading import check_message, check_picture, lack, reading


def fitting_keys(keys):
    """The keys, made of tuples; Unfit() if they are none, or not all KEYS of one p with as many columns."""
    if many_in(keys) in (None, 0):
        raise Unfit()
    own = tuple([fitting_key(key) for key in keys])
    for key in own:
        check_columns_and_primes(own[0], key)
    return own


def all_stacked(keys):
    """The KEY with the columns of all keys one behind the other."""
    whole = keys[0]
    for key in keys[1:]:
        whole = stacked(whole, key)
    return whole


def all_joined(rows):
    """The ROW of the DIGITS of all rows, one behind the other."""
    return tuple([digit for row in rows for digit in row])


def _parted(keys, row):
    """The joint ROW that has the DIGITS of row."""
    parts, first = [], 0
    for _, many, _ in keys:
        parts.append(tuple(row[first:first + many]))
        first += many
    return tuple(parts)


def _is_joint_row(keys, thing):
    """Whether thing is a tuple with a ROW of many DIGITS for each KEY."""
    if not isinstance(thing, tuple) or len(thing) != len(keys):
        return False
    return all([is_message(key, row) for key, row in zip(keys, thing)])


def _seen_keys(picture, keys):
    """The keys, made of tuples; Unfit() as fitting_keys, and if they have not as many columns as picture CELLS."""
    own = fitting_keys(keys)
    check_picture(picture, own[0])
    return own


def all_asked(picture, prices, keys, messages):
    """The pair of the keys and of messages, made of tuples; Unfit() if not all of them go together."""
    own = _seen_keys(picture, keys)
    check_prices(picture, prices)
    if many_in(messages) != len(own):
        raise Unfit()
    for key, message in zip(own, messages):
        check_message(key, message)
    return (own, in_tuples(messages))


def _check_number(keys, number):
    if not is_number(number) or not 0 <= number < len(keys):
        raise Unfit()


def _check_lot(keys, lot):
    if not is_lot(keys[0], as_tuple(lot)):
        raise Unfit()


def readings(picture, keys):
    """The tuple of the READINGS by all keys; Unfit() if they do not go together, here and below."""
    own = _seen_keys(picture, keys)
    return tuple([reading(picture, key) for key in own])


def kept_readings(picture, other, keys):
    """The set of the numbers of those of keys that read both PICTURES alike."""
    pairs = list(zip(readings(picture, keys), readings(other, keys)))
    return tuple([number for number, (near, far) in enumerate(pairs) if near == far])


def can_all(picture, prices, keys, messages):
    """Whether some PICTURE hides all messages."""
    own, asked = all_asked(picture, prices, keys, messages)
    return can_hide(picture, prices, all_stacked(own), all_joined(asked))


def hide_all(picture, prices, keys, messages):
    """The first cheapest PICTURE that hides all messages; TooMany() for keys stacked; NoPaper() if none does."""
    own, asked = all_asked(picture, prices, keys, messages)
    return cheapest(picture, prices, all_stacked(own), all_joined(asked))


def clash(picture, prices, keys, messages):
    """A CLASH; NoPaper() if there is none."""
    own, asked = all_asked(picture, prices, keys, messages)
    return _parted(own, word_against(picture, prices, all_stacked(own), all_joined(asked)))


def is_clash(picture, prices, keys, messages, thing):
    """Whether thing is a CLASH."""
    own, asked = all_asked(picture, prices, keys, messages)
    if not _is_joint_row(own, thing):
        return False
    return is_bar(picture, prices, all_stacked(own), all_joined(asked), all_joined(thing))


def least_clash(picture, prices, keys, messages):
    """The least set of numbers of keys of which no PICTURE hides all; NoPaper() if one hides all."""
    own, asked = all_asked(picture, prices, keys, messages)
    for size in range(1, len(own) + 1):
        for numbers in combinations(range(len(own)), size):
            whole = all_stacked([own[number] for number in numbers])
            if not can_hide(picture, prices, whole, all_joined([asked[number] for number in numbers])):
                return numbers
    raise NoPaper()


def binding(keys, lot):
    """A BINDING beside lot; NoPaper() if there is none."""
    own = fitting_keys(keys)
    _check_lot(own, lot)
    return _parted(own, barring_word(all_stacked(own), lot))


def is_binding(keys, lot, thing):
    """Whether thing is a BINDING beside lot."""
    own = fitting_keys(keys)
    _check_lot(own, lot)
    return _is_joint_row(own, thing) and is_barring_word(all_stacked(own), lot, all_joined(thing))


def always_all(keys, lot):
    """Whether there is no BINDING beside lot."""
    own = fitting_keys(keys)
    _check_lot(own, lot)
    return not bars(all_stacked(own), lot)


def _loud_ones(keys, lot, number):
    """Of the BINDINGS beside lot of which all are sums those in which the ROW of number is not all zeros."""
    own = fitting_keys(keys)
    _check_lot(own, lot)
    _check_number(own, number)
    p, many, columns = all_stacked(own)
    words = unmarked_rows(p, many, [column for cell, column in enumerate(columns) if cell not in lot])
    return [joint for joint in [_parted(own, word) for word in words] if any(joint[number])]


def always_quiet(keys, lot, number):
    """Whether in all BINDINGS beside lot the ROW of number is all zeros."""
    return _loud_ones(keys, lot, number) == []


def loud_binding(keys, lot, number):
    """A BINDING beside lot in which the ROW of number is not all zeros; NoPaper() if there is none."""
    found = _loud_ones(keys, lot, number)
    if found == []:
        raise NoPaper()
    return found[0]


def hide_quietly(picture, prices, keys, number, message):
    """hide_all for message by KEY number, for all others what they read in picture; TooMany(), NoPaper() likewise."""
    own = _seen_keys(picture, keys)
    _check_number(own, number)
    kept = readings(picture, own)
    return hide_all(picture, prices, own, kept[:number] + (message,) + kept[number + 1:])


def disturbed(picture, prices, keys, number, message):
    """The set of the numbers of the others that read the first cheapest PICTURE by KEY number alone otherwise.

    TooMany() for that KEY; NoPaper() if none hides message by it.
    """
    own = _seen_keys(picture, keys)
    _check_number(own, number)
    shown = cheapest(picture, prices, own[number], message)
    kept = kept_readings(picture, shown, own)
    return tuple([other for other in range(len(own)) if other != number and other not in kept])


def cover_key(picture, key, message):
    """The KEY with the fewest columns unlike key's that reads message, the least of several; NoPaper() without one."""
    p, many, columns = _seen_keys(picture, (key,))[0]
    missing = lack(picture, key, message)
    if not any(missing):
        return (p, many, columns)
    # One other column is enough, at any CELL with a REST above 0.
    found = []
    for cell, rest in enumerate(rests(picture, p)):
        if rest != 0:
            column = row_sum(p, columns[cell], row_times(p, inverse_digit(p, rest), missing))
            found.append((p, many, columns[:cell] + (column,) + columns[cell + 1:]))
    if found == []:
        raise NoPaper()
    return min(found)


def is_cover_key(picture, key, message, thing):
    """Whether thing is any KEY with p, many and as many columns as key that reads message."""
    p, many, columns = _seen_keys(picture, (key,))[0]
    check_message(key, message)
    if not is_key(thing) or thing[:2] != (p, many) or len(thing[2]) != len(columns):
        return False
    return reading(picture, thing) == tuple(message)
