"""[22]: CLAIMS, and one judge for all papers."""

import itertools
import unittest

from drycells.anylots import is_any_paper
from drycells.cheapest import is_right_slope, least_cost, least_slope
from drycells.digits import is_prime, is_row
from drycells.errors import NoWord
from drycells.judge import is_claim, is_paper, is_so, not_so, paper, shows, words_so
from drycells.keys import is_key
from drycells.most import is_far_paper
from drycells.pictures import is_picture
from tests import brute
from tests.checks import (
    JUNK, Fits, Raises, check_call, check_calls, check_raises_of_things, check_things, outcome,
)

UNFIT, NO_PAPER, TOO_MANY = Raises("Unfit"), Raises("NoPaper"), Raises("TooMany")
PAINT, COAT, PLEA = (7, ((4, 3, 6),)), (2, 1, ((1,), (1,), (0,))), (0,)
DEAR, BARE = (None, 2, 1), (None, None, 1)
LEVEL, LIGHT = ((0,), (0, None), (2,), (2,)), (7, ((4, 2, 6),))
WATCH = (2, 1, ((1,), (0,), (1,)))
SEEN, TORN = ((PAINT, (1,)),), ((PAINT, (1,)), (PAINT, (0,)))
OTHER = (7, ((5, 3, 6),))
WIDE = (2, 10, ((1,) * 10,) * 3)
THIRD, POOR = (3, 2, ((1, 0), (2, 0), (1, 1))), (3, 2, ((1, 2), (2, 1), (0, 0)))
FIFTH = (5, 1, ((1,), (3,), (0,)))
ROW = (8, ((0, 7, 5),))
# Each CLAIM with whether it is so.
SO = (
    (("hides", PAINT, DEAR, COAT, PLEA), True), (("hides", PAINT, BARE, COAT, PLEA), False),
    (("hides", ROW, (1, None, 2), THIRD, (2, 1)), True), (("hides", ROW, (None, None, 2), FIFTH, (0,)), False),
    (("cheapest", PAINT, DEAR, COAT, PLEA, LIGHT), True),
    (("cheapest", PAINT, DEAR, COAT, PLEA, (7, ((4, 4, 6),))), True),
    (("cheapest", PAINT, DEAR, COAT, PLEA, (7, ((4, 0, 6),))), False),
    (("cheapest", PAINT, BARE, COAT, (1,), PAINT), True),
    (("cheapest", ROW, (1, 1, 1), FIFTH, (1,), (8, ((1, 5, 0),))), False),
    (("any", COAT, 1), True), (("any", COAT, 2), False), (("any", COAT, 0), True), (("any", (2, 0, ((), ())), 7), True),
    (("any", THIRD, 0), True), (("any", THIRD, 1), False), (("any", POOR, 0), False), (("any", FIFTH, 9), False),
    (("needs", COAT, (0,), 0), True), (("needs", COAT, (1,), 0), False), (("needs", COAT, (1,), 1), True),
    (("needs", COAT, (1,), 9), True), (("needs", THIRD, (1, 2), 1), False), (("needs", THIRD, (1, 2), 2), True),
    (("needs", POOR, (0, 1), 3), False), (("needs", POOR, (2, 1), 1), True), (("needs", FIFTH, (4,), 0), False),
    (("read", COAT, WATCH, (0,), (1,)), True), (("read", COAT, WATCH, (1,), (1,)), False),
    (("read", COAT, WATCH, (), (1,)), True), (("read", FIFTH, FIFTH, (0, 1), (3,)), True),
    (("read", THIRD, (3, 0, ((), (), ())), (2,), (0, 1)), False),
    (("fits", 2, SEEN), True), (("fits", 2, TORN), False), (("fits", 5, ((ROW, (1, 2)), (ROW, (1, 2)))), True),
    (("fits", 3, ((ROW, (1, 2)), ((8, ((0, 8, 4),)), (2, 1)))), True),
    (("fits", 3, ((ROW, (1, 2)), ((8, ((0, 2, 4),)), (1, 0)))), False),
    (("told", 2, SEEN, PAINT), True), (("told", 2, SEEN, OTHER), False), (("told", 2, SEEN, (4, ((0, 2, 4),))), True),
    (("told", 5, ((ROW, (1,)),), (9, ((1, 9, 0),))), False), (("told", 5, ((ROW, (1,)),), (9, ((5, 4, 0),))), True),
    (("all", PAINT, DEAR, (COAT, COAT), ((0,), (1,))), False), (("all", PAINT, DEAR, (COAT, COAT), ((0,), (0,))), True),
    (("all", ROW, (1, 1, 1), (THIRD, (3, 1, ((0,), (0,), (1,)))), ((1, 1), (1,))), True),
    (("all", ROW, (1, 1, None), (FIFTH, FIFTH[:2] + (((0,), (0,), (1,)),)), ((1,), (1,))), False),
)
TELLS_NOTHING = ("told", 2, TORN, PAINT)
COUNTS = {"hides": 5, "cheapest": 6, "any": 3, "needs": 4, "read": 5, "fits": 3, "told": 4, "all": 5}


def prices_by_words(thing):
    return isinstance(thing, tuple) and thing != () and all(own is None or count_by_words(own) for own in thing)


def count_by_words(thing):
    return type(thing) is int and thing >= 0


def pairs_by_words(p, thing):
    return isinstance(thing, tuple) and thing != () and all(
        isinstance(pair, tuple) and len(pair) == 2 and is_picture(pair[0]) and is_row(p, pair[1]) for pair in thing)


def shapes_by_words(word, parts):
    """Whether the parts behind word are such as a CLAIM has."""
    if word in ("hides", "cheapest"):
        picture, prices, key, message, *other = parts
        return (is_picture(picture) and prices_by_words(prices) and is_key(key) and is_row(key[0], message)
                and all(map(is_picture, other)))
    if word == "any":
        return is_key(parts[0]) and count_by_words(parts[1])
    if word == "needs":
        return is_key(parts[0]) and is_row(parts[0][0], parts[1]) and count_by_words(parts[2])
    if word == "read":
        key, guard, lost, own = parts
        if not is_key(key) or not is_key(guard) or not isinstance(lost, tuple) or not all(map(count_by_words, lost)):
            return False
        return all(one < next_one for one, next_one in zip(lost, lost[1:])) and is_row(key[0], own) and any(own)
    if word in ("fits", "told"):
        return is_prime(parts[0]) and pairs_by_words(parts[0], parts[1]) and all(map(is_picture, parts[2:]))
    picture, prices, keys, messages = parts
    if not is_picture(picture) or not prices_by_words(prices) or not isinstance(keys, tuple) or keys == ():
        return False
    return all(map(is_key, keys)) and isinstance(messages, tuple) and all(is_row(keys[0][0], own) for own in messages)


def is_claim_by_words(thing):
    if not isinstance(thing, tuple) or thing == () or not isinstance(thing[0], str) or thing[0] not in COUNTS:
        return False
    return len(thing) == COUNTS[thing[0]] and bool(shapes_by_words(thing[0], thing[1:]))


def fits_by_words(p, pairs, key):
    return (is_key(key) and key[:2] == (p, len(pairs[0][1])) and len(key[2]) == len(brute.greys_in(pairs[0][0]))
            and all(brute.read(key, picture) == message for picture, message in pairs))


def joint_marks(keys, joint, rows):
    return sum(brute.product_of(key[0], own, row) for key, own, row in zip(keys, joint, rows)) % keys[0][0]


def is_tuple_of_rows(keys, thing):
    return isinstance(thing, tuple) and len(thing) == len(keys) and all(
        is_row(key[0], row) and len(row) == key[1] for key, row in zip(keys, thing))


def shows_by_words(claim, thing):
    """True if thing is a PAPER that claim is so, False if it is one that it is not, None if it is none."""
    word, parts = claim[0], claim[1:]
    return RIGHTS[word](thing, *parts) or (False if WRONGS[word](thing, *parts) else None)


def hides_so(thing, picture, prices, key, message):
    return is_picture(thing) and same_shape(thing, picture) and brute.hides(picture, prices, key, message, thing)


def same_shape(one, other):
    return (one[0], len(one[1]), len(one[1][0])) == (other[0], len(other[1]), len(other[1][0]))


def hides_not(thing, picture, prices, key, message):
    return is_row(key[0], thing) and thing in brute.bars_of(picture, prices, key, message)


def cheapest_so(thing, picture, prices, key, message, other):
    return is_right_slope(picture, prices, key, message, thing) and (
        thing[-1][0] == brute.cost_between(picture, other, prices))


def cheapest_not(thing, picture, prices, key, message, other):
    return hides_so(thing, picture, prices, key, message) and (
        brute.cost_between(picture, thing, prices) < brute.cost_between(picture, other, prices))


def any_not(thing, key, number):
    return (isinstance(thing, tuple) and thing in brute.lots_of(len(key[2]))
            and all(type(cell) is int for cell in thing)
            and len(thing) <= number
            and any(set(brute.marks_of(key, word)) <= set(thing) for word in brute.words_of(key)))


def needs_so(thing, key, row, number):
    return (is_row(key[0], thing) and len(thing) == len(key[2]) and brute.weight_of(thing) <= number
            and brute.read_rests(key, thing) == row)


def needs_not(thing, key, row, number):
    silent = (is_row(key[0], thing) and len(thing) == key[1] and any(thing) and not brute.marks_of(key, thing)
              and brute.product_of(key[0], thing, row) != 0)
    return silent or is_far_paper(key, row, number + 1, thing)


def read_so(thing, key, guard, lost, word):
    return is_row(key[0], thing) and len(thing) == guard[1] and all(
        brute.product_of(key[0], thing, guard[2][cell]) == brute.product_of(key[0], word, key[2][cell])
        for cell in lost)


def read_not(thing, key, guard, lost, word):
    if not isinstance(thing, tuple) or not all(isinstance(own, tuple) and len(own) == 2 for own in thing):
        return False
    cells = [cell for cell, _ in thing]
    if not all(type(own) is int for pair in thing
               for own in pair) or cells != sorted(set(cells)) or not set(cells) <= set(lost):
        return False
    if not all(0 < digit < key[0] for _, digit in thing):
        return False
    rows = [brute.sum_by(key[0], own[1], [own[2][cell] for cell in cells], [digit for _, digit in thing])
            for own in (guard, key)]
    return not any(rows[0]) and brute.product_of(key[0], word, rows[1]) != 0


def fits_so(thing, p, pairs):
    return fits_by_words(p, pairs, thing)


def told_rests(p, pairs):
    return [brute.rests_in(p, picture) for picture, _ in pairs]


def fits_not(thing, p, pairs):
    if not is_row(p, thing) or len(thing) != len(pairs):
        return False
    rows, messages = told_rests(p, pairs), [message for _, message in pairs]
    return not any(brute.sum_by(p, len(rows[0]), rows, thing)) and any(brute.sum_by(p, len(messages[0]), messages,
                                                                                    thing))


def told_so(thing, p, pairs, picture):
    own = brute.rests_in(p, picture)
    return is_row(p, thing) and len(thing) == len(pairs) and brute.sum_by(p, len(own), told_rests(p, pairs),
                                                                          thing) == own


def told_not(thing, p, pairs, picture):
    return (isinstance(thing, tuple) and len(thing) == 2 and all(fits_by_words(p, pairs, key) for key in thing)
            and brute.read(thing[0], picture) != brute.read(thing[1], picture))


def all_so(thing, picture, prices, keys, messages):
    return all(hides_so(thing, picture, prices, key, message) for key, message in zip(keys, messages))


def all_not(thing, picture, prices, keys, messages):
    if not is_tuple_of_rows(keys, thing):
        return False
    seen = [brute.read(key, picture) for key in keys]
    marks = [joint_marks(keys, thing, [key[2][cell] for key in keys]) for cell in range(len(prices))]
    return joint_marks(keys, thing, seen) != joint_marks(keys, thing, messages) and not any(
        mark for mark, price in zip(marks, prices) if price is not None)


RIGHTS = {"hides": hides_so, "cheapest": cheapest_so, "any": lambda thing, key,
          number: is_any_paper(key, number, thing),
          "needs": needs_so, "read": read_so, "fits": fits_so, "told": told_so, "all": all_so}
WRONGS = {"hides": hides_not, "cheapest": cheapest_not, "any": any_not, "needs": needs_not, "read": read_not,
          "fits": fits_not, "told": told_not, "all": all_not}


def pool():
    """Things of all kinds that may be PAPERS of the CLAIMS of SO."""
    for p in (2, 3, 5):
        for size in range(4):
            yield from brute.rows_of(p, size) if p ** size < 130 else brute.rows_of(p, size)[::9]
    yield from brute.lots_of(3)
    yield from (((word,), (other,)) for word in range(3) for other in range(3))
    yield from (((0, 0), (word,)) for word in range(3))
    yield from (((word, other), (word,)) for word in range(3) for other in range(3))
    yield from brute.pictures_of(7, 1, 3)
    for picture in (ROW, (8, ((1, 5, 0),)), (8, ((0, 5, 5),)), (8, ((1, 7, 5),)), (8, ((0, 6, 5),)), (8, ((2, 7, 8),))):
        yield picture
    keys = brute.keys_of(2, 1, 3)
    yield from keys
    yield from itertools.product(keys, repeat=2)
    yield from brute.keys_of(3, 1, 3)[::5]
    yield from (tuple((cell, digit) for cell, digit in zip(cells, digits)) for size in range(3)
                for cells in itertools.combinations(range(3), size)
                for digits in itertools.product((1, 2, 4), repeat=size))
    for claim, _ in SO:
        yield paper(claim)
        if claim[0] in ("hides", "cheapest"):
            yield least_slope(*claim[1:5])
    yield from (((0,), (0, 0), (0,), (0,)), LEVEL, ((0,), (0, None), (1,), (1,)), ((0, 1),), ((0, 1), (0, 1)))
    yield from ((((0,),),), (((0,),), ((0,), (1,))), (((0, 0),),), (((0, 0),), tuple(brute.rows_of(3, 2))), ())


POOL = tuple(pool())


class ThingsTest(unittest.TestCase):
    def test_is_claim(self):
        right = tuple(claim for claim, _ in SO) + (
            TELLS_NOTHING, ("hides", PAINT, (1,), THIRD, ()), ("cheapest", PAINT, (None,), COAT, (1, 1), ROW),
            ("any", WIDE, 10 ** 9),
            ("needs", COAT, (), 0), ("read", COAT, THIRD, (0, 9, 77), (1, 0)), ("fits", 2, ((PAINT, ()), (ROW, (1,)))),
            ("told", 5, ((PAINT, (4,)),), (4, ((1,),))), ("all", PAINT, (1,), (COAT, THIRD), ()),
            ("all", PAINT, (1,), (COAT,) * 6, ((),)),
        )
        wrong = (
            (), "hides", ("bold", PAINT), ("any", COAT), ("any", COAT, 1, 1), ("any", COAT, -1), ("any", COAT, None),
            ("any", PAINT, 1),
            ("needs", COAT, (2,), 1), ("needs", COAT, (1,), -1), ("hides", PAINT, (), COAT, PLEA),
            ("hides", PAINT, (-1,), COAT, PLEA),
            ("hides", PAINT, DEAR, COAT, (2,)), ("hides", PAINT, DEAR, COAT), ("cheapest", PAINT, DEAR, COAT, PLEA),
            ("cheapest", PAINT, DEAR, COAT, PLEA, 9), ("read", COAT, WATCH, (1, 0), (1,)),
            ("read", COAT, WATCH, (0, 0), (1,)),
            ("read", COAT, WATCH, (-1,), (1,)), ("read", COAT, WATCH, 9, (1,)), ("read", COAT, WATCH, None, (1,)),
            ("read", COAT, WATCH, (0,), (0,)), ("read", COAT, WATCH, (0,), ()),
            ("fits", 4, SEEN),
            ("fits", 2, ()), ("fits", 2, ((PAINT, (2,)),)), ("fits", 2, ((PAINT,),)), ("told", 2, SEEN),
            ("told", 2, SEEN, 9),
            ("all", PAINT, DEAR, (), ()), ("all", PAINT, DEAR, (COAT, 9), ((0,), (0,))),
            ("all", PAINT, DEAR, (COAT,), 9),
            ("all", PAINT, DEAR, (COAT, THIRD), ((0,), (2, 2))), ("all", PAINT, DEAR, COAT, ((0,),)), ["any", COAT, 1],
            (9,), (None, 1, 1),
            (("any",), COAT, 1), ("Any", COAT, 1),
        )
        check_things(self, "is_claim", (), right, wrong, judge=is_claim_by_words)

    def test_papers_beside_all_things(self):
        for claim, so in SO:
            for thing in POOL:
                told = shows(claim, thing)
                self.assertIs(told, shows_by_words(claim, thing), f"{claim!r} {thing!r}")
                self.assertTrue(told in (so, None))
                self.assertIs(is_paper(claim, thing), told is not None)
            for thing in JUNK:
                self.assertIs(shows(claim, thing), shows_by_words(claim, thing), f"{claim!r} {thing!r}")
            self.assertTrue(any(shows(claim, thing) is so for thing in POOL))

    def test_papers_made_of_lists_show_nothing(self):
        for claim, _ in SO:
            told = paper(claim)
            self.assertIs(shows(claim, list(told)), None)
            self.assertIs(is_paper(claim, list(told)), False)
            for place, part in enumerate(told):
                if isinstance(part, tuple):
                    self.assertIs(shows(claim, told[:place] + (list(part),) + told[place + 1:]), None)

    def test_errors_whatever_thing_is(self):
        for claim, expected in REFUSED:
            check_raises_of_things(self, "shows", (claim,), expected)
            check_raises_of_things(self, "is_paper", (claim,), expected)


def no_word(word):
    return Raises("NoWord", word=word)


# Each CLAIM that is refused, with the error.
REFUSED = (
    ((), UNFIT), (9, UNFIT), (None, UNFIT), ("hides", UNFIT), (("hides",), UNFIT), (("bold",), no_word("bold")),
    (("bold", 1, 2, 3, 4), no_word("bold")),
    ((9, COAT, 1), no_word(9)), ((None,), no_word(None)), ((True, COAT, 1), no_word(True)),
    (("", COAT, 1), no_word("")), (("Any", COAT, 1), no_word("Any")), (("any", COAT), UNFIT),
    (("any", COAT, 1, 1), UNFIT),
    (("hides", PAINT, DEAR[:2], COAT, PLEA), UNFIT), (("hides", PAINT, DEAR, COAT, (2,)), UNFIT),
    (("hides", PAINT, DEAR, COAT, 9), UNFIT),
    (("cheapest", PAINT, DEAR, COAT, PLEA), UNFIT), (("cheapest", PAINT, DEAR, COAT, PLEA, PAINT), UNFIT),
    (("cheapest", PAINT, DEAR, COAT, PLEA, 9), UNFIT),
    (("cheapest", PAINT, DEAR, COAT, PLEA, (7, ((5, 2, 6),))), UNFIT),
    (("cheapest", PAINT, DEAR, COAT, (0, 0), LIGHT), UNFIT),
    (("cheapest", PAINT, (1,) * 3, WIDE, (0,) * 10, 9), TOO_MANY),
    (("cheapest", PAINT, (1,) * 3, WIDE, (0,) * 9, 9), UNFIT), (("any", WIDE, 1), TOO_MANY),
    (("needs", COAT, (1, 1), 1), UNFIT),
    (("needs", WIDE, (0,) * 10, 1), TOO_MANY), (("needs", WIDE, (0,) * 9, 1), UNFIT), (("needs", COAT, None, 1), UNFIT),
    (("read", COAT, THIRD, (0,), (1,)), UNFIT), (("read", COAT, WATCH, (3,), (1,)), UNFIT),
    (("read", COAT, WATCH, (0,), (0,)), UNFIT),
    (("read", COAT, WATCH, (0,), (1, 1)), UNFIT), (("read", COAT, WATCH, 9, (1,)), UNFIT), (("fits", 2, ()), UNFIT),
    (("fits", 2, ((PAINT, ()),)), UNFIT), (("fits", 2, 9), UNFIT), (("told", 2, SEEN, (7, ((1, 2),))), UNFIT),
    (TELLS_NOTHING, NO_PAPER),
    (("told", 2, TORN, (7, ((1, 2),))), UNFIT), (("told", 2, (), PAINT), UNFIT),
    (("all", PAINT, DEAR, (COAT, THIRD), ((0,), (0, 0))), UNFIT),
    (("all", PAINT, DEAR, (), ()), UNFIT), (("all", PAINT, DEAR, (COAT,), ((0,), (0,))), UNFIT),
    (("all", PAINT, DEAR[:2], (COAT,), ((0,),)), UNFIT),
)


class CallsTest(unittest.TestCase):
    def test_what_is_so(self):
        for claim, so in SO:
            check_calls(self, ("is_so", (claim,), so),
                        ("paper", (claim,), Fits(lambda told: shows_by_words(claim, told) is so)))
            check_call(self, "is_paper", (claim, paper(claim)), True)
            check_call(self, "shows", (claim, paper(claim)), so)
        check_calls(
            self, ("paper", (("hides", PAINT, BARE, COAT, PLEA),), (1,)),
            ("paper", (("needs", COAT, (0,), 0),), (0, 0, 0)),
            ("paper", (("any", COAT, 2),), (0, 1)), ("paper", (("fits", 2, TORN),), (1, 1)),
            ("paper", (("told", 2, SEEN, PAINT),), (1,)),
            ("paper", (("cheapest", PAINT, DEAR, COAT, PLEA, LIGHT),), LEVEL),
            ("paper", (("any", (2, 0, ((),)), 3),), ()),
        )

    def test_what_is_refused(self):
        for claim, expected in REFUSED:
            check_calls(self, ("is_so", (claim,), expected), ("paper", (claim,), expected))
            for name in ("not_so", "words_so"):
                check_calls(self, (name, ((claim,),), expected),
                            (name, ((("any", COAT, 1), claim, ("bold",)),), expected))
        # The word is kept as it is, whatever it is.
        for word in ([], ["any"], ["any", 1], (), ("any",), (("any", 1), ["any"]), 10 ** 30):
            with self.assertRaises(NoWord) as caught:
                is_so((word, COAT, 1))
            self.assertEqual(caught.exception.word, word)

    def test_the_first_of_several_decides(self):
        for (one, first), (other, _) in itertools.product(REFUSED[3:20:2], REFUSED[::5]):
            check_calls(self, ("not_so", ((one, other),), first), ("words_so", ((SO[0][0], one, other),), first))

    def test_no_bound_on_rooms_for_all(self):
        broad, ones = (("all", (7, ((1, 2, 3),)), (1, 1, 1), (WIDE, WIDE), ((1,) * 10, (1,) * 10))), (1,) * 10
        self.assertIs(is_so(broad), True)
        self.assertIs(shows(broad, paper(broad)), True)
        self.assertIs(is_so(broad[:4] + ((ones, (0,) * 10),)), False)
        self.assertIs(shows(broad[:4] + ((ones, (0,) * 10),), paper(broad[:4] + ((ones, (0,) * 10),))), False)

    def test_several_claims(self):
        claims = tuple(claim for claim, _ in SO)
        check_calls(
            self, ("not_so", ((),), ()), ("words_so", ((),), ()),
            ("not_so", ((("any", COAT, 2), ("any", COAT, 1)),), (0,)),
            ("words_so", ((("any", COAT, 1), ("needs", COAT, (1,), 0)),), ("any",)),
            ("words_so", ((("any", COAT, 1), ("any", COAT, 2)),), ()),
            ("words_so", ((("told", 2, SEEN, PAINT), ("any", COAT, 1), ("fits", 2, SEEN)),),
                                                                     ("any", "fits", "told")),
            ("not_so", (claims[:6],), (1, 3)),
        )
        for start in range(0, len(SO) - 6, 3):
            part = SO[start:start + 3] + SO[-start - 3:-start] if start else SO[:6]
            self.assertEqual(not_so(tuple(claim for claim, _ in part)),
                             tuple(own for own, (_, so) in enumerate(part) if not so))
            words = {claim[0] for claim, _ in part} - {claim[0] for claim, so in part if not so}
            self.assertEqual(words_so(tuple(claim for claim, _ in part)), tuple(sorted(words)))


def small_claims():
    """CLAIMS of all kinds and PRIMES, as if at random."""
    for number, (picture, prices, key) in enumerate(brute.small_tasks(2)):
        messages = brute.rows_of(key[0], key[1])
        message = messages[number * 3 % len(messages)]
        yield ("hides", picture, prices, key, message)
        hidden = brute.hidings_of(picture, prices, key)[message]
        for digits in hidden[:2]:
            yield ("cheapest", picture, prices, key, message, brute.nearest_picture(picture, key[0], digits))
        size = len(prices)
        for most in range(size + 2):
            yield ("any", key, most)
            yield ("needs", key, message, most)
        guard = brute.mixed_key(key[0], number % 3, size, number + 1)
        for word in messages[1:3]:
            yield ("read", key, guard, tuple(range(number % 2, size)), word)
            yield ("read", key, guard, tuple(range(number % 2, size))[:1], word)
        if key[1]:
            pairs = ((picture, message), (brute.mixed_picture(5, 1, size, number + 2), messages[-1]))
            yield ("fits", key[0], pairs)
            yield ("fits", key[0], pairs[:1] * 2)
            yield ("told", key[0], pairs[1:], picture)
            yield ("told", key[0], pairs[:1], picture)
        if guard[1]:
            rows = brute.rows_of(key[0], guard[1])
            yield ("all", picture, prices, (key, guard), (message, rows[number % len(rows)]))


class GuaranteesTest(unittest.TestCase):
    def test_just_one_kind_of_papers(self):
        seen = {}
        for claim in small_claims():
            if outcome("is_so", (claim,)) == NO_PAPER:
                self.assertEqual(claim[0], "told")
                continue
            so, own = is_so(claim), paper(claim)
            self.assertIs(is_claim(claim), True)
            self.assertIs(shows(claim, own), so)
            self.assertIs(shows_by_words(claim, own), so)
            self.assertEqual(not_so((claim,)), () if so else (0,))
            seen.setdefault((claim[0], so), []).append(claim)
            for thing in POOL[::7]:
                self.assertTrue(shows(claim, thing) in (so, None))
                self.assertIs(shows(claim, thing), shows_by_words(claim, thing))
        self.assertEqual(sorted(seen), sorted(itertools.product(COUNTS, (False, True))))
        for (word, so), claims in seen.items():
            for claim in claims:
                for other in claims[:5]:
                    if word in ("hides", "cheapest") and len(other) == len(claim):
                        self.assertTrue(shows(claim, paper(other)) in (so, None))

    def test_cheapest_beside_least_cost(self):
        for claim in small_claims():
            if claim[0] == "cheapest":
                dear = brute.cost_between(claim[1], claim[5], claim[2])
                self.assertIs(is_so(claim), dear == least_cost(*claim[1:5]))

    def test_64_cells(self):
        for p, many in ((2, 7), (3, 4), (5, 3)):
            key, picture = brute.mixed_key(p, many, 64, p), brute.mixed_picture(255, 8, 8, p)
            guard, lost = brute.mixed_key(p, 2, 64, p + 9), (3, 17, 40)
            prices, message = brute.mixed(p, 64, (None, 3, 1000, 20)), brute.mixed(p, many, range(p))
            pairs = tuple((brute.mixed_picture(255, 8, 8, own), brute.mixed(own, 3, range(p))) for own in range(8))
            claims = (
                ("hides", picture, prices, key, message), ("hides", picture, (None,) * 64, key, message),
                ("any", key, 2), ("any", key, 63),
                ("needs", key, message, 1), ("needs", key, message, 9), ("read", key, guard, lost, message),
                ("read", key, guard, lost[:1], message),
                ("fits", p, pairs), ("told", p, pairs, picture), ("told", p, pairs, pairs[4][0]),
                ("all", picture, prices, (key, guard), (message, (1, 0))),
                ("all", picture, (1,) + (None,) * 63, (key, guard), (message, (1, 0))),
            )
            for claim in claims:
                self.assertIs(shows(claim, paper(claim)), is_so(claim))
            shown = paper(claims[0])
            self.assertIs(is_so(claims[0]), True)
            cheap = ("cheapest",) + claims[0][1:] + (shown,)
            self.assertIs(shows(cheap, paper(cheap)), is_so(cheap))


if __name__ == "__main__":
    unittest.main()
