"""CLAIMS of eight kinds, and one judge for the PAPERS that each is so, or is not."""

from drycells.anylots import any_paper, is_any_paper, is_worst_lot, least_lots, worst_lot
from drycells.cheapest import cheapest, end_of, is_right_slope, least_cost, least_slope
from drycells.digits import is_prime, is_row, marked_places, sum_of_multiples
from drycells.errors import NoWord, Unfit
from drycells.hiding import can_hide, check_task, hiding_picture, is_bar, is_hiding, word_against
from drycells.holes import hole_forging, is_hole_forging, is_read_paper, read_paper, word_read
from drycells.keys import is_key
from drycells.most import columns_needed, far_paper, few_columns, is_far_paper
from drycells.pictures import is_picture
from drycells.plain import as_tuple, in_tuples, is_number
from drycells.prices import cost, is_price
from drycells.reading import is_silent_word, silent_word
from drycells.rooms import check_rooms
from drycells.several import all_asked, all_joined, all_stacked, can_all, clash, is_clash
from drycells.watchers import (
    fits_pairs, how_many_keys, is_odd_row, is_telling, is_told, is_two_keys, odd_row, some_key, telling, two_keys,
)


def _told(right, wrong):
    """What shows tells of a thing that is right, a PAPER that it is so, or wrong, one that it is not, or neither."""
    if right:
        return True
    return False if wrong else None


# "hides".

def _is_hides(picture, prices, key, message):
    return is_picture(picture) and _are_prices(prices) and is_key(key) and is_row(key[0], message)


def _hides_so(picture, prices, key, message):
    return can_hide(picture, prices, key, message)


def _hides_paper(picture, prices, key, message):
    if _hides_so(picture, prices, key, message):
        return hiding_picture(picture, prices, key, message)
    return word_against(picture, prices, key, message)


def _hides_shown(picture, prices, key, message, thing):
    return _told(is_hiding(picture, prices, key, message, thing), is_bar(picture, prices, key, message, thing))


# "cheapest".

def _is_cheapest(picture, prices, key, message, other):
    return _is_hides(picture, prices, key, message) and is_picture(other)


def _cost_of_other(picture, prices, key, message, other):
    """The COST of other; Unfit(), then TooMany(), then Unfit() if it does not hide message."""
    check_task(picture, prices, key, message)
    check_rooms(key)
    own = in_tuples(other)
    if not is_hiding(picture, prices, key, message, own):
        raise Unfit()
    return cost(picture, own, prices)


def _cheapest_so(picture, prices, key, message, other):
    dear = _cost_of_other(picture, prices, key, message, other)
    return dear == least_cost(picture, prices, key, message)


def _cheapest_paper(picture, prices, key, message, other):
    if _cheapest_so(picture, prices, key, message, other):
        return least_slope(picture, prices, key, message)
    return cheapest(picture, prices, key, message)


def _cheapest_shown(picture, prices, key, message, other, thing):
    dear = _cost_of_other(picture, prices, key, message, other)
    if is_right_slope(picture, prices, key, message, thing):
        return _told(end_of(thing) == dear, False)
    return _told(False, is_hiding(picture, prices, key, message, thing) and cost(picture, thing, prices) < dear)


# "any".

def _is_any(key, number):
    return is_key(key) and _is_count(number)


def _any_so(key, number):
    lots = least_lots(key)
    return lots == () or len(lots[0]) > number


def _any_paper(key, number):
    return any_paper(key, number) if _any_so(key, number) else worst_lot(key, number)


def _any_shown(key, number, thing):
    return _told(is_any_paper(key, number, thing), is_worst_lot(key, number, thing))


# "needs".

def _is_needs(key, row, number):
    return is_key(key) and is_row(key[0], row) and _is_count(number)


def _needs_so(key, row, number):
    needed = columns_needed(key, row)
    return needed is not None and needed <= number


def _needs_paper(key, row, number):
    needed = columns_needed(key, row)
    if needed is None:
        return silent_word(key, row)
    # The first sets of a FAR PAPER are one for a lesser number.
    return few_columns(key, row) if needed <= number else far_paper(key, row)[:number + 1]


def _needs_shown(key, row, number, thing):
    wrong = is_far_paper(key, row, number + 1, thing) or is_silent_word(key, row, thing)
    return _told(_are_multiples(key, row, number, thing), wrong)


def _are_multiples(key, row, number, thing):
    """Whether thing is MULTIPLES with row as their sum that use at most number CELLS."""
    p, many, columns = key
    if not is_row(p, thing) or len(thing) != len(columns) or len(marked_places(thing)) > number:
        return False
    return sum_of_multiples(p, many, columns, thing) == tuple(row)


# "read".

def _is_read(key, guard, lost, word):
    if not is_key(key) or not is_key(guard) or not _is_count_set(lost):
        return False
    return is_row(key[0], word) and any(word)


def _read_so(key, guard, lost, word):
    return word_read(key, guard, lost, word)


def _read_paper(key, guard, lost, word):
    if _read_so(key, guard, lost, word):
        return read_paper(key, guard, lost, word)
    return hole_forging(key, guard, lost, word)


def _read_shown(key, guard, lost, word, thing):
    return _told(is_read_paper(key, guard, lost, word, thing), is_hole_forging(key, guard, lost, word, thing))


# "fits".

def _is_fits(p, pairs):
    return is_prime(p) and isinstance(pairs, tuple) and pairs != () and all([_is_pair(p, pair) for pair in pairs])


def _is_pair(p, thing):
    """Whether thing is a pair of a PICTURE and a ROW of p."""
    return isinstance(thing, tuple) and len(thing) == 2 and is_picture(thing[0]) and is_row(p, thing[1])


def _fits_so(p, pairs):
    return how_many_keys(p, pairs) > 0


def _fits_paper(p, pairs):
    return some_key(p, pairs) if _fits_so(p, pairs) else odd_row(p, pairs)


def _fits_shown(p, pairs, thing):
    # A KEY that is handed in may be made of lists, a thing may not.
    return _told(fits_pairs(p, pairs, thing) and is_key(thing), is_odd_row(p, pairs, thing))


# "told".

def _is_told(p, pairs, picture):
    return _is_fits(p, pairs) and is_picture(picture)


def _told_so(p, pairs, picture):
    return is_told(p, pairs, picture)


def _told_paper(p, pairs, picture):
    return telling(p, pairs, picture) if _told_so(p, pairs, picture) else two_keys(p, pairs, picture)


def _told_shown(p, pairs, picture, thing):
    return _told(is_telling(p, pairs, picture, thing), is_two_keys(p, pairs, picture, thing))


# "all".

def _is_all(picture, prices, keys, messages):
    if not is_picture(picture) or not _are_prices(prices) or not isinstance(keys, tuple) or keys == ():
        return False
    if not all([is_key(key) for key in keys]) or not isinstance(messages, tuple):
        return False
    return all([is_row(keys[0][0], message) for message in messages])


def _all_so(picture, prices, keys, messages):
    return can_all(picture, prices, keys, messages)


def _all_paper(picture, prices, keys, messages):
    if not _all_so(picture, prices, keys, messages):
        return clash(picture, prices, keys, messages)
    own, asked = all_asked(picture, prices, keys, messages)
    return hiding_picture(picture, prices, all_stacked(own), all_joined(asked))


def _all_shown(picture, prices, keys, messages, thing):
    own, asked = all_asked(picture, prices, keys, messages)
    right = is_hiding(picture, prices, all_stacked(own), all_joined(asked), thing)
    return _told(right, is_clash(picture, prices, own, asked, thing))


def _are_prices(thing):
    """Whether thing is PRICES of some PICTURE."""
    return isinstance(thing, tuple) and thing != () and all([is_price(price) for price in thing])


def _is_count(thing):
    """Whether thing is a number from 0."""
    return is_number(thing) and thing >= 0


def _is_count_set(thing):
    """Whether thing is a set of numbers from 0."""
    return isinstance(thing, tuple) and all([_is_count(own) for own in thing]) and thing == tuple(sorted(set(thing)))


# For each word: how many things are behind it, whether these are such as far as shapes go, whether it is so, a PAPER,
# and what a thing shows.
JUDGES = {
    "hides": (4, _is_hides, _hides_so, _hides_paper, _hides_shown),
    "cheapest": (5, _is_cheapest, _cheapest_so, _cheapest_paper, _cheapest_shown),
    "any": (2, _is_any, _any_so, _any_paper, _any_shown),
    "needs": (3, _is_needs, _needs_so, _needs_paper, _needs_shown),
    "read": (4, _is_read, _read_so, _read_paper, _read_shown),
    "fits": (2, _is_fits, _fits_so, _fits_paper, _fits_shown),
    "told": (3, _is_told, _told_so, _told_paper, _told_shown),
    "all": (4, _is_all, _all_so, _all_paper, _all_shown),
}


def _is_word(thing):
    """Whether thing is one of the words with which CLAIMS begin."""
    return isinstance(thing, str) and thing in JUDGES


def _parts_of(claim):
    """The tuple of what is behind the word of claim; NoWord(word) if it is none, then Unfit() if they are too many."""
    own = as_tuple(claim)
    if not isinstance(own, tuple) or own == ():
        raise Unfit()
    if not _is_word(own[0]):
        raise NoWord(own[0])
    if len(own) - 1 != JUDGES[own[0]][0]:
        raise Unfit()
    return own[1:]


def is_claim(thing):
    """Whether thing is a CLAIM as far as shapes go."""
    if not isinstance(thing, tuple) or thing == () or not _is_word(thing[0]):
        return False
    many, is_such, _, _, _ = JUDGES[thing[0]]
    parts = thing[1:]
    return len(parts) == many and is_such(*parts)


def is_so(claim):
    """Whether claim is so; NoWord(word), then Unfit() if it is none, here and below; then the errors of its point."""
    parts = _parts_of(claim)
    holds = JUDGES[claim[0]][2]
    return holds(*parts)


def paper(claim):
    """A PAPER that claim is so, or that it is not."""
    parts = _parts_of(claim)
    paper_of = JUDGES[claim[0]][3]
    return paper_of(*parts)


def is_paper(claim, thing):
    """Whether thing is a PAPER of claim."""
    return shows(claim, thing) is not None


def shows(claim, thing):
    """True if thing is a PAPER that claim is so, False if it is one that claim is not, None if it is none."""
    parts = _parts_of(claim)
    shown = JUDGES[claim[0]][4]
    return shown(*parts, thing)


def not_so(claims):
    """The set of the numbers of those of claims that are not so."""
    return tuple([number for number, claim in enumerate(claims) if not is_so(claim)])


def words_so(claims):
    """The set of the words of claims of which all CLAIMS are so."""
    told = [(is_so(claim), claim[0]) for claim in claims]
    lost = [word for holds, word in told if not holds]
    return tuple(sorted({word for _, word in told if word not in lost}))
