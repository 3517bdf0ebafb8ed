"""[17]: several KEYS in one PICTURE."""

import itertools
import unittest

from drycells.keys import is_key
from drycells.several import (
    always_all, always_quiet, binding, can_all, clash, cover_key, disturbed, hide_all, hide_quietly, is_binding,
    is_clash, is_cover_key, kept_readings, least_clash, loud_binding, readings,
)
from tests import brute
from tests.checks import Fits, Raises, check_calls, check_raises_of_things, check_things, outcome, same

UNFIT, NO_PAPER, TOO_MANY = Raises("Unfit"), Raises("NoPaper"), Raises("TooMany")
PARK, FEES, TIGHT = (7, ((3, 4, 5), (2, 2, 7))), (1, None, 2, 1, 5, 1), (None, None, 2, None, None, 1)
OURS = (2, 2, ((1, 0), (0, 1), (1, 1), (0, 0), (1, 0), (0, 1)))
THEIRS = (2, 1, ((1,), (0,), (0,), (1,), (1,), (0,)))
BOTH, EMPTY = (OURS, THEIRS), (2, 0, ((),) * 6)
STRIP, FLAT = (5, ((4, 1, 2),)), (4, ((0, 2), (4, 2)))
THIRDS = ((3, 1, ((1,), (0,), (2,))), (3, 1, ((1,), (1,), (0,))), (3, 0, ((), (), ())), (3, 1, ((0,), (2,), (1,))))
FIFTHS = ((5, 1, ((1,), (3,), (0,), (4,))), (5, 1, ((0,), (1,), (2,), (0,))))
# What does not go together: (picture, prices, keys, messages).
UNFITTING = (
    (STRIP, FEES, BOTH, ((1, 0), (0,))), (PARK, FEES[:5], BOTH, ((1, 0), (0,))), (PARK, FEES, (), ()),
    (PARK, FEES, BOTH, ((1, 0),)), (PARK, FEES, BOTH, ((1, 0), (0,), ())), (PARK, FEES, BOTH, ((1,), (0,))),
    (PARK, FEES, BOTH, ((1, 0), (2,))), (PARK, FEES, BOTH, ((0,), (1, 0))), (PARK, FEES, BOTH, ((1, 0), (-1,))),
    (PARK, FEES, (OURS, (3, 1, THEIRS[2])), ((1, 0), (0,))),
    (PARK, FEES, (OURS, (2, 1, THEIRS[2][:5])), ((1, 0), (0,))),
    (PARK, FEES, ((2, 2, OURS[2][:5]), (2, 1, THEIRS[2][:5])), ((1, 0), (0,))), (PARK, FEES, OURS, ((1, 0),)),
    (PARK, FEES, (OURS, 9), ((1, 0), (0,))), (PARK, FEES, (OURS, None), ((1, 0), (0,))), (PARK, FEES, 9, ((1, 0),)),
    (PARK, FEES, BOTH, 9), (PARK, FEES, BOTH, None), (PARK, FEES, BOTH, ((1, 0), 0)), (PARK, FEES, BOTH, (None, (0,))),
    (PARK, 7, BOTH, ((1, 0), (0,))), (None, FEES, BOTH, ((1, 0), (0,))), (PARK, None, BOTH, ((1, 0), (0,))),
    (PARK, FEES, ((2, 3, OURS[2]), THEIRS), ((1, 0, 0), (0,))), (PARK, FEES, ((4, 2, OURS[2]),), ((1, 0),)),
)


def joint_rows(keys):
    """All tuples with a ROW of many DIGITS for each KEY, ascending."""
    return list(itertools.product(*[brute.rows_of(key[0], key[1]) for key in keys]))


def mark_of(keys, joint, cell):
    return sum(brute.product_of(key[0], row, key[2][cell]) for key, row in zip(keys, joint)) % keys[0][0]


def bindings_of(keys, lot):
    """All BINDINGS beside lot."""
    size = len(keys[0][2])
    return [joint for joint in joint_rows(keys) if any(map(any, joint))
            and all(mark_of(keys, joint, cell) == 0 for cell in range(size) if cell not in lot)]


def sum_of(keys, joint, rows):
    """The products of joint's ROWS with rows, added up."""
    return sum(brute.product_of(key[0], own, row) for key, own, row in zip(keys, joint, rows)) % keys[0][0]


def clashes_of(picture, prices, keys, messages):
    """All CLASHES."""
    seen = [brute.read(key, picture) for key in keys]
    free = [cell for cell, price in enumerate(prices) if price is not None]
    return [joint for joint in joint_rows(keys) if sum_of(keys, joint, seen) != sum_of(keys, joint, messages)
            and all(mark_of(keys, joint, cell) == 0 for cell in free)]


def ways_for(picture, prices, keys, messages):
    """The pairs (price, RESTS), ascending, of all RESTS that hide all messages."""
    p = keys[0][0]
    return sorted((brute.price_of(picture, prices, p, digits), digits)
                  for digits in brute.rests_kept(p, picture, prices)
                  if all(brute.read_rests(key, digits) == own for key, own in zip(keys, messages)))


def first_of(picture, p, ways):
    """The first cheapest PICTURE of such ways, or that there is none."""
    return brute.nearest_picture(picture, p, ways[0][1]) if ways else NO_PAPER


SHAPES = {2: ((1,), (1, 1), (2, 1), (0, 2), (1, 1, 1), (1, 0, 1, 1), (0, 0)), 3: ((1,), (1, 1), (2, 0), (1, 1, 0, 0)),
          5: ((1,), (1, 1), (0, 1))}


def small_several(each):
    """Triples (picture, prices, keys) of each PRIME, as if at random."""
    for p, shapes in SHAPES.items():
        size = 4 if p < 5 else 3
        for many, start in itertools.product(shapes, range(each)):
            keys = tuple(brute.mixed_key(p, rows, size, start + 9 * place) for place, rows in enumerate(many))
            picture = brute.mixed_picture((4, 5, 7, 9)[start % 4], 1, size, start + sum(many))
            yield picture, brute.mixed(start + 3 * len(many), size, (None, None, 0, 1, 2, 5)), keys


class ThingsTest(unittest.TestCase):
    def test_is_clash(self):
        task = (PARK, TIGHT, BOTH, ((1, 1), (0,)))
        right = (((0, 0), (1,)),)
        wrong = (((0, 0), (0,)), ((0, 1), (0,)), ((1, 1), (1,)), ((0, 0),), (0, 0, 1), ((0, 0, 1),), ((0, 0), (1,), ()))
        check_things(self, "is_clash", task, right, wrong + (((1,), (0, 0)), ((0, 0), (2,)), ((0, 0), (-1,))))
        check_things(self, "is_clash", (PARK, FEES, BOTH, ((1, 0), (0,))), (), right + wrong)
        task = (STRIP, (None, 1, None), THIRDS, ((1,), (0,), (), (1,)))
        hit = clashes_of(*task)
        missed = [own for own in joint_rows(THIRDS) if own not in hit]
        check_things(self, "is_clash", task, hit, missed,
                     judge=lambda own: any(same(own, right) for right in hit))
        check_things(self, "is_clash", (PARK, TIGHT, (EMPTY,), ((),)), (), (((),), ()))

    def test_is_binding(self):
        right = (((0, 1), (0,)),)
        wrong = (((0, 0), (0,)), ((1, 0), (0,)), ((0, 1), (1,)), ((0, 1),), (0, 1, 0), ((0, 1, 0),), ((0,), (1, 0)))
        check_things(self, "is_binding", (BOTH, (1, 2, 5)), right, wrong)
        check_things(self, "is_binding", (BOTH, (1,)), (), right + wrong)
        check_things(self, "is_binding", (BOTH, tuple(range(6))), (((1, 1), (1,)), ((0, 0), (1,))), wrong[:1])
        right = tuple(bindings_of(FIFTHS, (0, 1, 3)))
        check_things(self, "is_binding", (FIFTHS, (0, 1, 3)), right, (((0,), (0,)), ((1,), (1,))),
                     judge=lambda own: any(same(own, one) for one in right))
        check_things(self, "is_binding", ((EMPTY, EMPTY), ()), (), (((), ()), ((),), ()))

    def test_is_cover_key(self):
        right = ((2, 2, ((0, 1),) + OURS[2][1:]), (2, 2, ((1, 1),) + ((0, 0),) * 5), (2, 2, ((1, 1),) * 6))
        wrong = (OURS, (2, 2, right[0][2][:5]), (2, 2, right[0][2] + ((0, 0),)), (3, 2, right[0][2]),
                 (2, 1, ((1,),) + ((0,),) * 5), (2, 3, ((1, 1, 0),) + ((0, 0, 0),) * 5), right[0][2])

        def judge(own):
            return is_key(own) and own[:2] == (2, 2) and len(own[2]) == 6 and brute.read(own, PARK) == (1, 1)
        check_things(self, "is_cover_key", (PARK, OURS, (1, 1)), right, wrong, judge=judge)

    def test_errors_whatever_thing_is(self):
        for task in UNFITTING:
            check_raises_of_things(self, "is_clash", task, UNFIT)
        for args in (((), ()), (BOTH, (6,)), (BOTH, (1, 0)), (BOTH, (-1,)), (9, ()), (BOTH, 3), (BOTH, None)):
            check_raises_of_things(self, "is_binding", args, UNFIT)
        for args in ((STRIP, OURS, (1, 1)), (PARK, OURS, (1,)), (PARK, OURS, (1, 2)), (PARK, 9, (1, 1)),
                     (PARK, OURS, 9)):
            check_raises_of_things(self, "is_cover_key", args, UNFIT)


class CallsTest(unittest.TestCase):
    def test_readings(self):
        check_calls(
            self, ("readings", (PARK, BOTH), ((0, 0), (1,))), ("readings", (STRIP, THIRDS), ((2,), (2,), (), (1,))),
            ("readings", (FLAT, FIFTHS), ((4,), (0,))), ("readings", (PARK, (EMPTY,)), ((),)),
            ("kept_readings", (PARK, (7, ((2, 4, 5), (1, 2, 7))), BOTH), (1,)),
            ("kept_readings", (PARK, (7, ((2, 4, 5), (2, 2, 7))), BOTH), ()),
            ("kept_readings", (PARK, (7, ((3, 4, 5), (1, 2, 7))), BOTH), (0,)),
            ("kept_readings", (PARK, (4, ((1,), (0,), (1,), (0,), (0,), (3,))), BOTH), (0, 1)),
            ("kept_readings", (PARK, (7, ((3, 5, 5, 2, 2, 7),)), BOTH + (EMPTY,)), (1, 2)),
            ("readings", (STRIP, BOTH), UNFIT), ("kept_readings", (PARK, STRIP, BOTH), UNFIT),
            ("kept_readings", (STRIP, PARK, BOTH), UNFIT), ("kept_readings", (PARK, 9, BOTH), UNFIT),
            ("kept_readings", (PARK, PARK, ()), UNFIT), ("readings", (PARK, (OURS, THIRDS[0])), UNFIT),
        )

    def test_all_hidden_or_a_clash(self):
        easy, hard = (PARK, FEES, BOTH, ((1, 0), (0,))), (PARK, TIGHT, BOTH, ((1, 1), (0,)))
        check_calls(
            self, ("can_all", easy, True), ("can_all", hard, False), ("can_all", hard[:3] + (((1, 1), (1,)),), True),
            ("hide_all", easy, (7, ((2, 4, 5), (2, 2, 7)))), ("hide_all", hard, NO_PAPER),
            ("clash", easy, NO_PAPER), ("clash", hard, ((0, 0), (1,))), ("least_clash", hard, (1,)),
            ("least_clash", easy, NO_PAPER), ("hide_all", (PARK, FEES, (EMPTY, EMPTY), ((), ())), PARK),
            ("clash", (PARK, TIGHT, (EMPTY,), ((),)), NO_PAPER), ("can_all", (PARK, TIGHT, (EMPTY,), ((),)), True),
            ("least_clash", (PARK, TIGHT, (EMPTY, THEIRS, OURS), ((), (0,), (1, 1))), (1,)),
            ("least_clash", (FLAT, (1, None, None, None), FIFTHS + FIFTHS[:1], ((0,), (0,), (1,))), (0, 2)),
            ("can_all", (STRIP, (1, 1, 1), THIRDS, ((0,), (1,), (), (2,))), True),
            ("hide_all", (STRIP, (1, 1, 1), THIRDS, ((0,), (1,), (), (2,))), (5, ((3, 1, 3),))),
            ("hide_all", (FLAT, (1, 1, 1, 1), FIFTHS, ((0,), (1,))), Fits(lambda told: brute.cost_between(
                FLAT, told, (1,) * 4) == ways_for(FLAT, (1,) * 4, FIFTHS, ((0,), (1,)))[0][0])),
        )

    def test_what_does_not_go_together(self):
        for task in UNFITTING:
            picture, prices, keys, messages = task
            check_calls(self, *[(name, task, UNFIT) for name in ("can_all", "hide_all", "clash", "least_clash")])
            lone = messages[0] if isinstance(messages, tuple) and messages else 9
            if keys is not BOTH or picture is not PARK or prices is not FEES:
                check_calls(self, ("hide_quietly", (picture, prices, keys, 0, lone), UNFIT),
                            ("disturbed", (picture, prices, keys, 0, lone), UNFIT))
        for number in (2, -1, None, "0"):
            check_calls(self, ("hide_quietly", (PARK, FEES, BOTH, number, (1, 0)), UNFIT),
                        ("disturbed", (PARK, FEES, BOTH, number, (1, 0)), UNFIT),
                        ("always_quiet", (BOTH, (1,), number), UNFIT), ("loud_binding", (BOTH, (1,), number), UNFIT))
        for message in ((1,), (1, 2), (1, 0, 0), None, 7):
            check_calls(self, ("hide_quietly", (PARK, FEES, BOTH, 0, message), UNFIT),
                        ("disturbed", (PARK, FEES, BOTH, 0, message), UNFIT),
                        ("cover_key", (PARK, OURS, message), UNFIT))

    def test_too_many_rooms(self):
        wide = (2, 5, ((1,) * 5,) * 4)
        square = (7, ((3, 4), (1, 2)))
        two, ones = (wide, wide), (1,) * 5
        check_calls(
            self, ("hide_all", (square, (1,) * 4, two, (ones, ones)), TOO_MANY),
            ("hide_all", (square, (None,) * 4, two, (ones, (0,) * 5)), TOO_MANY),
            ("hide_all", (square, (1,) * 4, two, (ones, ones[1:])), UNFIT),
            ("hide_all", (square, (1,) * 4, (wide,), (ones,)), (7, ((2, 4), (1, 2)))),
            ("hide_quietly", (square, (1,) * 4, two, 0, ones), TOO_MANY),
            ("hide_quietly", (square, (1,) * 4, two, 2, ones), UNFIT),
            ("disturbed", (square, (1,) * 4, two, 0, ones), (1,)),
            ("can_all", (square, (1,) * 4, two, (ones, ones)), True),
            ("clash", (square, (1,) * 4, two, (ones, (0,) * 5)), Fits(lambda told: told in clashes_of(
                square, (1,) * 4, two, (ones, (0,) * 5)))),
            ("least_clash", (square, (1,) * 4, two, (ones, (0,) * 5)), (0, 1)),
        )
        broad = (2, 10, ((1,) * 10,) * 4)
        check_calls(
            self, ("disturbed", (square, (1,) * 4, (THIRDS[0], broad), 0, (0,)), UNFIT),
            ("disturbed", (square, (1,) * 4, (wide, broad), 1, (0,) * 10), TOO_MANY),
            ("disturbed", (square, (1,) * 4, (wide, broad), 1, (0,) * 9), UNFIT),
            ("disturbed", (square, (1,) * 4, (wide, broad), 0, ones), (1,)),
            ("always_all", ((broad, wide), ()), False), ("cover_key", (square, broad, (0,) * 10), broad),
        )

    def test_bindings(self):
        check_calls(
            self, ("always_all", (BOTH, (1,)), True), ("always_all", (BOTH, (1, 2, 5)), False),
            ("binding", (BOTH, (1,)), NO_PAPER), ("binding", (BOTH, (1, 2, 5)), ((0, 1), (0,))),
            ("always_quiet", (BOTH, (1, 2, 5), 0), False), ("always_quiet", (BOTH, (1, 2, 5), 1), True),
            ("loud_binding", (BOTH, (1, 2, 5), 0), ((0, 1), (0,))), ("loud_binding", (BOTH, (1, 2, 5), 1), NO_PAPER),
            ("always_quiet", (BOTH, (), 0), True), ("always_all", ((EMPTY, EMPTY), tuple(range(6))), True),
            ("binding", ((EMPTY,), (0,)), NO_PAPER), ("always_quiet", ((EMPTY, OURS), tuple(range(6)), 0), True),
            ("loud_binding", ((EMPTY, THEIRS), tuple(range(6)), 1), ((), (1,))),
            ("binding", (FIFTHS, (0, 1, 3)), Fits(lambda told: told in bindings_of(FIFTHS, (0, 1, 3)))),
            ("loud_binding", (THIRDS, (0, 1, 2), 3),
             Fits(lambda told: told in bindings_of(THIRDS, (0, 1, 2)) and told[3] != (0,))),
            ("binding", (BOTH, tuple(range(6))), Fits(lambda told: told in bindings_of(BOTH, tuple(range(6))))),
        )
        for lot in ((6,), (0, 6), (-1,), (1, 0), (1, 1), 5, None, ("0",)):
            check_calls(
                self, ("always_all", (BOTH, lot), UNFIT), ("binding", (BOTH, lot), UNFIT),
                ("always_quiet", (BOTH, lot, 0), UNFIT), ("loud_binding", (BOTH, lot, 0), UNFIT),
            )
        for keys in ((), 9, None, (OURS, THIRDS[0]), (OURS, (2, 1, ((0,),))), (9,), OURS):
            check_calls(
                self, ("always_all", (keys, ()), UNFIT), ("binding", (keys, ()), UNFIT),
                ("always_quiet", (keys, (), 0), UNFIT), ("loud_binding", (keys, (), 0), UNFIT),
            )

    def test_quietly_and_disturbed(self):
        check_calls(
            self, ("hide_quietly", (PARK, FEES, BOTH, 0, (1, 0)), (7, ((2, 4, 5), (1, 2, 7)))),
            ("disturbed", (PARK, FEES, BOTH, 0, (1, 0)), (1,)), ("disturbed", (PARK, FEES, BOTH, 0, (0, 0)), ()),
            ("disturbed", (PARK, FEES, (THEIRS,), 0, (0,)), ()),
            ("hide_quietly", (PARK, FEES, BOTH, 1, (0,)), (7, ((3, 4, 5), (1, 2, 7)))),
            ("disturbed", (PARK, FEES, BOTH + (THEIRS,), 1, (0,)), Fits(lambda told: told in ((0, 2), (2,)))),
            ("hide_quietly", (PARK, (None,) * 6, BOTH, 0, (1, 0)), NO_PAPER),
            ("disturbed", (PARK, (None,) * 6, BOTH, 0, (1, 0)), NO_PAPER),
            ("hide_quietly", (PARK, (None,) * 6, BOTH, 0, (0, 0)), PARK),
            ("hide_quietly", (PARK, (1,) * 6, (THEIRS, THEIRS), 0, (0,)), NO_PAPER),
            ("disturbed", (STRIP, (1, 1, 1), THIRDS, 0, (0,)), Fits(lambda told: set(told) <= {1, 3})),
        )

    def test_cover_keys(self):
        dark = (7, ((0, 4, 2), (2, 6, 0)))
        check_calls(
            self, ("cover_key", (PARK, OURS, (1, 1)), (2, 2, ((0, 1),) + OURS[2][1:])),
            ("cover_key", (PARK, OURS, (0, 0)), OURS), ("cover_key", (dark, OURS, (1, 1)), NO_PAPER),
            ("cover_key", (dark, OURS, (0, 0)), OURS), ("cover_key", (PARK, EMPTY, ()), EMPTY),
            ("cover_key", (FLAT, FIFTHS[0], (0,)), (5, 1, ((1,), (1,), (0,), (4,)))),
            ("cover_key", ((5, ((0, 0, 2),)), THIRDS[0], (0,)), (3, 1, ((1,), (0,), (0,)))),
            ("cover_key", (STRIP, OURS, (1, 1)), UNFIT), ("cover_key", (PARK, THIRDS[0], (1,)), UNFIT),
            ("cover_key", (PARK, 9, (1,)), UNFIT), ("cover_key", (None, OURS, (1, 1)), UNFIT),
            ("cover_key", (PARK, (2, 2, OURS[2][:5] + ((1,),)), (1, 1)), UNFIT),
        )


class GuaranteesTest(unittest.TestCase):
    def test_all_hidden_or_a_clash_never_both(self):
        for picture, prices, keys in small_several(3):
            joint = joint_rows(keys)
            for messages in joint[::max(1, len(joint) // 7)]:
                task = (picture, prices, keys, messages)
                ways, clashes = ways_for(*task), clashes_of(*task)
                self.assertNotEqual(ways == [], clashes == [])
                self.assertIs(can_all(*task), ways != [])
                self.assertEqual(outcome("hide_all", task), first_of(picture, keys[0][0], ways))
                self.assertEqual([own for own in joint if is_clash(*task, own)], clashes)
                if clashes:
                    self.assertIn(clash(*task), clashes)
                else:
                    self.assertEqual(outcome("clash", task), NO_PAPER)
                least = next((numbers for numbers in brute.lots_of(len(keys)) if numbers and not ways_for(
                    picture, prices, [keys[own] for own in numbers], [messages[own] for own in numbers])), NO_PAPER)
                self.assertEqual(outcome("least_clash", task), least)

    def test_bindings_beside_all_joint_rows(self):
        for picture, _, keys in small_several(2):
            size, p = len(keys[0][2]), keys[0][0]
            joint = joint_rows(keys)
            for lot in brute.lots_of(size):
                found = bindings_of(keys, lot)
                self.assertEqual([own for own in joint if is_binding(keys, lot, own)], found)
                self.assertIs(always_all(keys, lot), found == [])
                self.assertTrue(outcome("binding", (keys, lot)) in (found or [NO_PAPER]))
                prices = tuple(None if cell in lot else 1 for cell in range(size))
                seen = [brute.read(key, picture) for key in keys]
                reached = {tuple(brute.read_rests(key, digits) for key in keys)
                           for digits in brute.rests_kept(p, picture, prices)}
                self.assertIs(always_all(keys, lot), len(reached) == len(joint))
                for number, key in enumerate(keys):
                    loud = [own for own in found if any(own[number])]
                    self.assertIs(always_quiet(keys, lot, number), loud == [])
                    self.assertTrue(outcome("loud_binding", (keys, lot, number)) in (loud or [NO_PAPER]))
                    alone = {own[number] for own in reached
                             if all(own[other] == seen[other] for other in range(len(keys)) if other != number)}
                    self.assertIs(always_quiet(keys, lot, number), len(alone) == p ** key[1])

    def test_quietly_and_disturbed_beside_all_rests(self):
        for picture, prices, keys in small_several(2):
            p, seen = keys[0][0], tuple(brute.read(key, picture) for key in keys)
            self.assertEqual(readings(picture, keys), seen)
            for number, key in enumerate(keys):
                for message in brute.rows_of(p, key[1])[:4]:
                    args = (picture, prices, keys, number, message)
                    asked = seen[:number] + (message,) + seen[number + 1:]
                    told = first_of(picture, p, ways_for(picture, prices, keys, asked))
                    self.assertEqual(outcome("hide_quietly", args), told)
                    alone = first_of(picture, p, ways_for(picture, prices, (key,), (message,)))
                    if alone == NO_PAPER:
                        self.assertEqual(outcome("disturbed", args), NO_PAPER)
                        continue
                    others = tuple(own for own, other in enumerate(keys)
                                   if own != number and brute.read(other, alone) != seen[own])
                    self.assertEqual(disturbed(*args), others)
                    kept = tuple(own for own, other in enumerate(keys) if brute.read(other, alone) == seen[own])
                    self.assertEqual(kept_readings(picture, alone, keys), kept)
                    if told != NO_PAPER:
                        self.assertEqual(hide_quietly(*args), hide_all(picture, prices, keys, asked))

    def test_cover_keys_beside_all_keys(self):
        for p, many, size in ((2, 1, 3), (2, 2, 2), (3, 1, 2), (3, 2, 2), (5, 1, 2), (2, 0, 2)):
            keys = brute.keys_of(p, many, size)
            for start, key in enumerate(keys[::max(1, len(keys) // 6)]):
                picture = brute.mixed_picture(5, 1, size, start) if start else (4, ((0,) * size,))
                for message in brute.rows_of(p, many)[:5]:
                    covers = [own for own in keys if brute.read(own, picture) == message]
                    least = min(covers, default=None, key=lambda own: (
                        sum(one != other for one, other in zip(own[2], key[2])), own))
                    told = outcome("cover_key", (picture, key, message))
                    self.assertEqual(told, NO_PAPER if least is None else least)
                    self.assertEqual([own for own in keys if is_cover_key(picture, key, message, own)], covers)

    def test_many_cells_and_four_keys(self):
        for p, many in ((2, 2), (3, 1), (5, 1)):
            keys = tuple(brute.mixed_key(p, many, 64, p + start) for start in range(4))
            picture, prices = brute.mixed_picture(255, 8, 8, p), brute.mixed(p, 64, (None, 1, 20, 1000))
            messages = tuple(brute.mixed(p + start, many, range(p)) for start in range(4))
            shown = hide_all(picture, prices, keys, messages)
            for key, message in zip(keys, messages):
                self.assertTrue(brute.hides(picture, prices, key, message, shown))
            self.assertEqual(readings(shown, keys), messages)
            self.assertIs(can_all(picture, prices, keys, messages), True)
            self.assertEqual(outcome("clash", (picture, prices, keys, messages)), NO_PAPER)
            self.assertEqual(kept_readings(shown, hide_quietly(shown, prices, keys, 1, messages[0]), keys),
                             (0, 1, 2, 3) if messages[0] == messages[1] else (0, 2, 3))
            lot = tuple(range(62))
            self.assertIs(is_binding(keys, lot, binding(keys, lot)), True)
            self.assertEqual(least_clash(picture, (None,) * 64, keys, messages), (0,))
            self.assertTrue(any(loud_binding(keys, tuple(range(64)), 3)[3]))
            cover = cover_key(picture, keys[0], messages[1])
            self.assertIs(is_cover_key(picture, keys[0], messages[1], cover), True)


if __name__ == "__main__":
    unittest.main()
