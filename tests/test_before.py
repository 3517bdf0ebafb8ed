"""[21]: what a PICTURE was before."""

import math
import unittest

from drycells.before import (
    all_pasts, fewest_touched, grey_counts, how_many_pasts, is_past, likeliest, message_counts, past_at, past_counts,
    past_number, surely_kept, surely_touched, touched_part,
)
from drycells.pictures import is_picture
from tests import brute
from tests.checks import Raises, check_calls, check_raises_of_things, check_things, outcome

UNFIT, NO_PAPER, TOO_MANY = Raises("Unfit"), Raises("NoPaper"), Raises("TooMany")
PICTURE, PRICES = (7, ((3, 4), (6, 1))), (5, 2, None, 1)
KEY = (2, 2, ((1, 0), (1, 1), (0, 1), (1, 1)))
TASK, SHUT = (PICTURE, PRICES, KEY, (1, 1)), (PICTURE, (None,) * 4, KEY, (1, 1))
STILL = (PICTURE, (None,) * 4, KEY, (0, 1))
STRIP, THIRD = (8, ((0, 8, 4),)), (3, 1, ((1,), (0,), (2,)))
PAIR, FIFTH = (4, ((0, 4),)), (5, 1, ((1,), (2,)))
EMPTY = (6, ((3, 5),)), (1, 1), (3, 0, ((), ())), ()
IDLE = (PAIR, (1, 1), (2, 1, ((0,), (0,))), (1,))
WIDE = ((4, ((2, 4),)), (1, 1), (2, 10, ((1,) * 10,) * 2), (1,) * 10)
NUMBERED = ("past_counts", "how_many_pasts", "all_pasts", "surely_touched", "surely_kept")
UNFITTING = (
    (PICTURE, PRICES[:3], KEY, (1, 1)), (PICTURE, PRICES + (1,), KEY, (1, 1)), (STRIP, PRICES, KEY, (1, 1)),
    (PICTURE, PRICES, (2, 2, KEY[2][:3]), (1, 1)), (PICTURE, PRICES, KEY, (1,)), (PICTURE, PRICES, KEY, (1, 2)),
    (PICTURE, PRICES, KEY, (1, 1, 0)), (PICTURE, PRICES, KEY, 9), (PICTURE, PRICES, KEY, None),
    (9, PRICES, KEY, (1, 1)), (None, PRICES, KEY, (1, 1)), (PICTURE, None, KEY, (1, 1)), (PICTURE, 9, KEY, (1, 1)),
    WIDE[:3] + ((1,) * 9,),
)


def no_cell(number):
    return Raises("NoCell", number=number)


def pasts_of(picture, prices, key, message):
    """All PICTURES that hide message, in order, each with how many CELLS are touched from it."""
    top, rows = picture
    return [(other, len(brute.touched_between(picture, other)))
            for other in brute.pictures_of(top, len(rows), len(rows[0]))
            if brute.hides(picture, prices, key, message, other)]


def fraction(above, below):
    shared = math.gcd(above, below)
    return (above // shared, below // shared)


def small_befores(each):
    """Tasks (picture, prices, key) of each PRIME with few PICTURES of their shape, as if at random."""
    for p, many, size in ((2, 0, 2), (2, 1, 2), (2, 1, 3), (2, 2, 3), (3, 1, 2), (3, 1, 3), (3, 2, 3), (5, 1, 2),
                          (5, 1, 3), (5, 2, 2)):
        for start in range(each):
            top = (4, 5, 4, 6)[start % 4]
            picture = brute.mixed_picture(top, 1, size, start + 5 * many)
            prices = brute.mixed(start + size, size, (None, 0, 1, 3) if start % 3 else (0, 2))
            yield picture, prices, brute.mixed_key(p, many, size, start)


class ThingsTest(unittest.TestCase):
    def test_is_past(self):
        right = ((7, ((0, 4), (6, 1))), (7, ((2, 4), (6, 1))), (7, ((4, 4), (6, 1))))
        wrong = (PICTURE, (7, ((2, 5), (6, 0))), (7, ((2, 4), (4, 1))), (8, right[0][1]), (7, ((0, 4, 6, 1),)),
                 (7, ((0, 6), (6, 1))), (7, ((1, 4), (6, 1))), (7, ((8, 4), (6, 1))))

        def judge(own):
            return is_picture(own) and own in [other for other, touched in pasts_of(*TASK) if touched <= 1]
        check_things(self, "is_past", TASK + (1,), right, wrong, judge=judge)
        check_things(self, "is_past", TASK + (0,), (), right + wrong)
        check_things(self, "is_past", SHUT + (4,), (), right + wrong)
        check_things(self, "is_past", STILL + (0,), (PICTURE,), right)
        check_things(self, "is_past", STILL + (99,), (PICTURE,), right)
        check_things(self, "is_past", TASK + (2,), right + ((7, ((0, 6), (6, 1))), (7, ((2, 4), (6, 7)))), (PICTURE,),
                     judge=lambda own: is_picture(own) and own in [
                         other for other, touched in pasts_of(*TASK) if touched <= 2])

    def test_errors_whatever_thing_is(self):
        for task in UNFITTING:
            check_raises_of_things(self, "is_past", task + (1,), UNFIT)
        check_raises_of_things(self, "is_past", WIDE + (1,), TOO_MANY)


class CallsTest(unittest.TestCase):
    def test_counts(self):
        check_calls(
            self, ("past_counts", TASK + (3,), (0, 4, 24, 100)), ("past_counts", TASK + (0,), (0,)),
            ("past_counts", TASK + (6,), (0, 4, 24, 100, 0, 0, 0)), ("past_counts", SHUT + (3,), (0, 0, 0, 0)),
            ("past_counts", STILL + (2,), (1, 0, 0)), ("past_counts", EMPTY + (2,), (1, 12, 36)),
            ("past_counts", IDLE + (2,), (0, 0, 0)), ("past_counts", IDLE[:3] + ((0,), 2), (1, 8, 16)),
            ("past_counts", (PAIR, (1, None), FIFTH, (3,), 2), (1, 0, 0)),
            ("past_counts", (PAIR, (1, None), FIFTH, (0,), 2), (0, 1, 0)),
            ("past_counts", (STRIP, (1, 0, 1), THIRD, (2,), 1), (1, 12, )),
            ("how_many_pasts", TASK + (2,), 28), ("how_many_pasts", TASK + (0,), 0),
            ("how_many_pasts", TASK + (9,), 128),
            ("how_many_pasts", STILL + (0,), 1), ("how_many_pasts", SHUT + (9,), 0),
            ("how_many_pasts", EMPTY + (2,), 49),
            ("fewest_touched", TASK, 1), ("fewest_touched", SHUT, None), ("fewest_touched", STILL, 0),
            ("fewest_touched", EMPTY, 0), ("fewest_touched", IDLE, None),
            ("fewest_touched", (PAIR, (0, None), FIFTH, (0,)), 1),
            ("fewest_touched", (PICTURE, (1, None, 0, None), KEY, (1, 0)), 2),
        )

    def test_order(self):
        four = [(7, ((grey, 4), (6, 1))) for grey in (0, 2, 4, 6)]
        check_calls(
            self, ("all_pasts", TASK + (1,), four), ("all_pasts", TASK + (0,), []),
            ("all_pasts", STILL + (3,), [PICTURE]),
            ("all_pasts", SHUT + (3,), []), ("all_pasts", IDLE + (2,), []),
            *[("past_at", TASK + (1, number), own) for number, own in enumerate(four)],
            *[("past_number", TASK + (1, own), number) for number, own in enumerate(four)],
            ("past_at", TASK + (1, 4), UNFIT), ("past_at", TASK + (1, -1), UNFIT), ("past_at", TASK + (0, 0), UNFIT),
            ("past_at", TASK + (1, None), UNFIT), ("past_at", TASK + (1, "0"), UNFIT),
            ("past_at", SHUT + (3, 0), UNFIT),
            ("past_at", TASK + (4, 127), pasts_of(*TASK)[127][0]), ("past_at", TASK + (4, 128), UNFIT),
            ("past_at", STILL + (1, 0), PICTURE), ("past_at", STILL + (1, 1), UNFIT),
            ("past_at", WIDE + (2, 0), TOO_MANY), ("past_at", WIDE + (2, None), TOO_MANY),
            ("past_at", WIDE[:3] + ((1,), 2, 0), UNFIT), ("past_number", TASK + (1, PICTURE), UNFIT),
            ("past_number", TASK + (1, (7, ((0, 6), (6, 1)))), UNFIT),
            ("past_number", TASK + (2, (7, ((0, 6), (6, 1)))), 6),
            ("past_number", TASK + (1, 9), UNFIT), ("past_number", TASK + (1, None), UNFIT),
            ("past_number", TASK + (1, (8, four[0][1])), UNFIT),
            ("past_number", WIDE + (1, 9), TOO_MANY), ("past_number", STILL + (0, PICTURE), 0),
        )

    def test_just_a_thousand(self):
        whole = ((9, ((0, 0, 0),)), (1, 1, 1), (3, 0, ((),) * 3), ())
        told = all_pasts(*whole, 3)
        self.assertEqual(told, list(brute.pictures_of(9, 1, 3)))
        self.assertEqual(len(told), 1000)
        # Of at most one touched CELL there are as many PASTS as CELLS times the top, and one.
        for top, high, wide, count in ((111, 3, 3, 1000), (125, 2, 4, 1001), (200, 1, 5, 1001), (37, 3, 9, 1000)):
            task = ((top, ((5,) * wide,) * high), (1,) * (high * wide), (5, 0, ((),) * (high * wide)), ())
            self.assertEqual(how_many_pasts(*task, 1), count)
            pasts = outcome("all_pasts", task + (1,))
            self.assertEqual(pasts if count > 1000 else len(pasts), TOO_MANY if count > 1000 else 1000)
            self.assertEqual(past_number(*task, 1, past_at(*task, 1, count - 1)), count - 1)
            self.assertEqual(outcome("past_at", task + (1, count)), UNFIT)

    def test_sure_cells(self):
        check_calls(
            self, ("surely_touched", TASK + (2,), (0,)), ("surely_kept", TASK + (2,), (2,)),
            ("surely_kept", TASK + (1,), (1, 2, 3)), ("surely_touched", TASK + (1,), (0,)),
            ("surely_touched", TASK + (0,), ()),
            ("surely_kept", TASK + (0,), ()), ("surely_kept", STILL + (0,), (0, 1, 2, 3)),
            ("surely_touched", STILL + (4,), ()),
            ("surely_kept", SHUT + (4,), ()), ("surely_touched", SHUT + (4,), ()),
            ("surely_touched", (PICTURE, PRICES, KEY, (0, 1), 0), ()),
            ("surely_kept", (PICTURE, PRICES, KEY, (0, 1), 0), (0, 1, 2, 3)),
            ("surely_kept", (PICTURE, PRICES, KEY, (0, 1), 1), (2,)),
            # By 5 a GREY to 4 has no other one with its REST.
            ("surely_kept", (PAIR, (1, 1), FIFTH, (3,), 1), (0, 1)),
            ("surely_kept", (PAIR, (1, 1), FIFTH, (3,), 2), ()),
            ("surely_touched", (PAIR, (1, 1), FIFTH, (4,), 1), ()),
            ("surely_touched", (PAIR, (1, None), FIFTH, (4,), 1), (0,)),
        )

    def test_parts(self):
        check_calls(
            self, ("touched_part", TASK + (2, 3), (3, 7)), ("touched_part", TASK + (2, 0), (1, 1)),
            ("touched_part", TASK + (2, 2), (0, 1)),
            ("touched_part", TASK + (0, 0), NO_PAPER), ("touched_part", SHUT + (4, 3), NO_PAPER),
            ("touched_part", TASK + (2, 4), no_cell(4)),
            ("touched_part", SHUT + (2, -1), no_cell(-1)), ("touched_part", TASK + (2, None), no_cell(None)),
            ("touched_part", WIDE + (2, 9), TOO_MANY), ("touched_part", EMPTY + (2, 1), (6, 7)),
            ("grey_counts", TASK + (1, 0), (1, 0, 1, 0, 1, 0, 1, 0)), ("grey_counts", TASK + (1, 2), (0,) * 6 + (4, 0)),
            ("grey_counts", SHUT + (4, 1), (0,) * 8), ("grey_counts", STILL + (4, 3), (0, 1, 0, 0, 0, 0, 0, 0)),
            ("grey_counts", TASK + (1, 4), no_cell(4)), ("grey_counts", TASK + (1, -1), no_cell(-1)),
            ("grey_counts", TASK + (1, "1"), no_cell("1")),
            ("grey_counts", WIDE + (1, 5), TOO_MANY), ("grey_counts", IDLE + (2, 0), (0,) * 5),
            ("grey_counts", EMPTY + (1, 0), (1, 1, 1, 7, 1, 1, 1)),
            ("grey_counts", EMPTY + (0, 0), (0, 0, 0, 1, 0, 0, 0)),
        )

    def test_messages(self):
        check_calls(
            self, ("message_counts", (PICTURE, PRICES, KEY, 1), [((0, 1), 10), ((1, 0), 8), ((1, 1), 4)]),
            ("message_counts", (PICTURE, PRICES, KEY, 0), [((0, 1), 1)]),
            ("likeliest", (PICTURE, PRICES, KEY, 1), (0, 1)),
            ("message_counts", SHUT[:3] + (4,), [((0, 1), 1)]), ("likeliest", SHUT[:3] + (4,), (0, 1)),
            ("message_counts", (PICTURE, PRICES, KEY, 9), [(message, 128) for message in brute.rows_of(2, 2)]),
            ("likeliest", (PICTURE, PRICES, KEY, 9), (0, 0)), ("message_counts", EMPTY[:3] + (1,), [((), 13)]),
            ("likeliest", EMPTY[:3] + (1,), ()), ("message_counts", IDLE[:3] + (1,), [((0,), 9)]),
            ("message_counts", (PAIR, (1, 1), FIFTH, 1), [((0,), 2), ((1,), 2), ((2,), 2), ((3,), 1), ((4,), 2)]),
            ("likeliest", (PAIR, (1, 1), FIFTH, 1), (0,)), ("message_counts", WIDE[:3] + (1,), TOO_MANY),
            ("likeliest", WIDE[:3] + (1,), TOO_MANY), ("message_counts", (WIDE[0], (1,)) + WIDE[2:3] + (1,), UNFIT),
            ("likeliest", (WIDE[0], (1,)) + WIDE[2:3] + (1,), UNFIT), ("likeliest", (9, (1, 1), WIDE[2], 1), UNFIT),
            ("message_counts", (STRIP, PRICES, KEY, 1), UNFIT), ("message_counts", (PICTURE, None, KEY, 1), UNFIT),
            ("message_counts", (PICTURE, PRICES, 9, 1), UNFIT),
        )

    def test_what_does_not_go_together(self):
        for task in UNFITTING:
            check_calls(self, *[(name, task + (2,), UNFIT) for name in NUMBERED])
            check_calls(
                self, ("fewest_touched", task, UNFIT), ("past_at", task + (2, 0), UNFIT),
                ("past_number", task + (2, PICTURE), UNFIT),
                ("touched_part", task + (2, 9), UNFIT), ("grey_counts", task + (2, 9), UNFIT),
            )
        check_calls(self, *[(name, WIDE + (2,), TOO_MANY) for name in NUMBERED], ("fewest_touched", WIDE, TOO_MANY))

    def test_each_list_is_new(self):
        told = message_counts(PICTURE, PRICES, KEY, 1)
        told.clear()
        self.assertEqual(len(message_counts(PICTURE, PRICES, KEY, 1)), 3)
        told = all_pasts(*TASK, 1)
        told.clear()
        self.assertEqual(len(all_pasts(*TASK, 1)), 4)


class GuaranteesTest(unittest.TestCase):
    def test_pasts_beside_all_pictures(self):
        for picture, prices, key in small_befores(4):
            size = len(prices)
            for message in brute.rows_of(key[0], key[1])[::2]:
                task = (picture, prices, key, message)
                found = pasts_of(*task)
                touches = [touched for _, touched in found]
                self.assertEqual(fewest_touched(*task), min(touches, default=None))
                for most in range(size + 2):
                    pasts = [own for own, touched in found if touched <= most]
                    self.assertEqual(past_counts(*task, most), tuple(touches.count(own) for own in range(most + 1)))
                    self.assertEqual(how_many_pasts(*task, most), len(pasts))
                    self.assertEqual(all_pasts(*task, most), sorted(pasts))
                    for number, own in list(enumerate(pasts))[::max(1, len(pasts) // 8)]:
                        self.assertEqual(past_at(*task, most, number), own)
                        self.assertEqual(past_number(*task, most, own), number)
                        self.assertIs(is_past(*task, most, own), True)
                    self.assertEqual(outcome("past_at", task + (most, len(pasts))), UNFIT)
                    self.check_cells(task, most, pasts)

    def check_cells(self, task, most, pasts):
        """What is told of each CELL, beside all PASTS."""
        own, tones = brute.greys_in(task[0]), [brute.greys_in(past) for past in pasts]
        touched = [{cell for cell, grey in enumerate(past) if grey != own[cell]} for past in tones]
        always = tuple(cell for cell in range(len(own)) if pasts and all(cell in cells for cells in touched))
        never = tuple(cell for cell in range(len(own)) if pasts and not any(cell in cells for cells in touched))
        self.assertEqual((surely_touched(*task, most), surely_kept(*task, most)), (always, never))
        for cell in range(len(own)):
            counts = tuple(sum(past[cell] == grey for past in tones) for grey in range(task[0][0] + 1))
            self.assertEqual(grey_counts(*task, most, cell), counts)
            part = fraction(sum(cell in cells for cells in touched), len(pasts)) if pasts else NO_PAPER
            self.assertEqual(outcome("touched_part", task + (most, cell)), part)
            # A CELL is surely touched exactly if with it barred, too, there is no PAST, and some without.
            barred = tuple(None if at == cell else price for at, price in enumerate(task[1]))
            kept = how_many_pasts(task[0], barred, *task[2:], most)
            self.assertIs(cell in always, kept == 0 and pasts != [])

    def test_all_messages_together(self):
        for picture, prices, key in small_befores(6):
            free, top = sum(price is not None for price in prices), picture[0]
            messages = brute.rows_of(key[0], key[1])
            for most in range(len(prices) + 2):
                counts = {message: how_many_pasts(picture, prices, key, message, most) for message in messages}
                told = message_counts(picture, prices, key, most)
                self.assertEqual(told, [(message, counts[message]) for message in messages if counts[message]])
                best = max(counts.values())
                self.assertEqual(likeliest(picture, prices, key, most), next(
                    message for message in messages if counts[message] == best))
                if most >= free and (top + 1) % key[0] == 0:
                    self.assertEqual(len({count for _, count in told}), 1)
                totals = [past_counts(picture, prices, key, message, most) for message in messages]
                for touched in range(most + 1):
                    self.assertEqual(sum(own[touched] for own in totals), math.comb(free, touched) * top ** touched)

    def test_a_past_or_a_bar(self):
        for picture, prices, key in small_befores(6):
            for message in brute.rows_of(key[0], key[1]):
                bars = brute.bars_of(picture, prices, key, message)
                self.assertIs(how_many_pasts(picture, prices, key, message, len(prices)) > 0, bars == [])
                self.assertIs(fewest_touched(picture, prices, key, message) is None, bars != [])

    def test_64_cells(self):
        for p, many in ((2, 7), (3, 4), (5, 3)):
            key, picture = brute.mixed_key(p, many, 64, p), brute.mixed_picture(255, 8, 8, p)
            prices, message = brute.mixed(p, 64, (None, 3, 1000, 20)), brute.mixed(p, many, range(p))
            task, free = (picture, prices, key, message), sum(price is not None for price in prices)
            for most in (3, 70):
                counts = past_counts(*task, most)
                self.assertEqual(len(counts), most + 1)
                total = sum(counts)
                for number in (0, total // 3, total - 1):
                    past = past_at(*task, most, number)
                    self.assertIs(is_past(*task, most, past), True)
                    self.assertEqual(past_number(*task, most, past), number)
                self.assertEqual(outcome("past_at", task + (most, total)), UNFIT)
                for cell in (0, 20, 63):
                    greys = grey_counts(*task, most, cell)
                    self.assertEqual(sum(greys), total)
                    above = total - greys[brute.greys_in(picture)[cell]]
                    self.assertEqual(touched_part(*task, most, cell), fraction(above, total))
                told = dict(message_counts(picture, prices, key, most))
                self.assertEqual(told[message], total)
                self.assertEqual(sum(told.values()), sum(
                    math.comb(free, touched) * 255 ** touched for touched in range(most + 1)))
            self.assertTrue(0 < fewest_touched(*task) < 4)
            barred = tuple(cell for cell, price in enumerate(prices) if price is None)
            self.assertEqual(surely_kept(*task, 70), barred)
            self.assertEqual(surely_touched(*task, 70), ())


if __name__ == "__main__":
    unittest.main()
