"""[11]: open rows, ROOMS, STEPS and ways."""

import itertools
import unittest

from drycells.keys import band_key
from drycells.rooms import (
    closing_rows, how_many_ways, idle_rows, is_way, open_rows, room_behind, rooms_along, rooms_at, step_price, steps_at,
    way_price, ways_on, widest, widths,
)
from tests import brute
from tests.checks import Raises, check_calls, check_raises_of_things, check_things, outcome

UNFIT, TOO_MANY = Raises("Unfit"), Raises("TooMany")
PICTURE, PRICES = (7, ((3, 4), (6, 1))), (5, 2, None, 1)
KEY = (2, 2, ((1, 0), (1, 1), (0, 1), (1, 1)))
# Its row 1 is idle, row 2 opens and closes in one column.
IDLE = (3, 3, ((1, 0, 0), (0, 0, 2), (2, 0, 0)))
STRIP = (5, ((4, 1, 2),))
FIFTH, PAIR = (5, 1, ((3,), (4,))), (4, ((2,), (4,)))
EMPTY = (3, 0, ((), (), ()))
NO_MESSAGES = ((1,), (1, 0, 0), (), (1, 2), (-1, 0))
# (picture, prices, key) that do not go together.
UNFITTING = (
    (PICTURE, PRICES[:3], KEY), (PICTURE, PRICES + (1,), KEY), (PICTURE, PRICES, (2, 2, KEY[2][:3])),
    (PICTURE, PRICES, (2, 2, KEY[2] * 2)), (STRIP, PRICES, KEY), (STRIP, PRICES[:3], KEY),
)


def no_cell(number):
    return Raises("NoCell", number=number)


def wide_key(p, wide):
    """A KEY of two columns with so many rows open at place 1."""
    return (p, wide, ((1,) * wide,) * 2)


def along_by_words(key, message, way):
    """The ROOMS through which way leads, None from where there is no STEP."""
    rooms = [()]
    for cell, rest in enumerate(way):
        rooms.append(None if rooms[-1] is None else brute.step_by_words(key, message, cell, rooms[-1], rest))
    return tuple(rooms)


def small_keys():
    """Small KEYS of each PRIME: all of some sizes, others as if at random."""
    for p, many, size in ((2, 0, 2), (2, 1, 3), (2, 2, 2), (3, 1, 2), (5, 1, 1)):
        yield from brute.keys_of(p, many, size)
    for p, many, size in ((2, 2, 4), (2, 3, 4), (3, 2, 3), (5, 1, 3), (5, 2, 2)):
        for start in range(12):
            yield brute.mixed_key(p, many, size, start)
    yield IDLE


class ThingsTest(unittest.TestCase):
    def test_is_way(self):
        wrong = ((1, 0, 0, 1), (0, 0, 0), (0, 0, 0, 1, 0), (2, 0, 0, 1), (0, 2, 0, 1), (0, 0, 0, 0))
        check_things(self, "is_way", (KEY, (1, 1)), ((0, 0, 0, 1), (0, 1, 0, 0), (1, 0, 1, 0), (1, 1, 1, 1)), wrong)
        check_things(self, "is_way", (IDLE, (1, 0, 2)), ((1, 1, 0), (0, 1, 2)), ((1, 0, 0), (1, 1, 1), (0, 4, 2)))
        check_things(self, "is_way", (IDLE, (1, 1, 2)), (), ((1, 1, 0), (0, 1, 2)))
        check_things(self, "is_way", (EMPTY, ()), ((0, 0, 0), (2, 1, 0)), ((0, 0), (3, 0, 0)), fine=((2, 1, 0),))
        check_things(self, "is_way", (FIFTH, (2,)), ((4, 0), (0, 3), (2, 4)), ((0, 0), (4, 5)), fine=((4, 0),))

    def test_errors_whatever_thing_is(self):
        for message in NO_MESSAGES:
            check_raises_of_things(self, "is_way", (KEY, message), UNFIT)
        check_raises_of_things(self, "is_way", (wide_key(2, 10), (0,) * 10), TOO_MANY)
        check_raises_of_things(self, "is_way", (wide_key(2, 10), (0,) * 9), UNFIT)


class CallsTest(unittest.TestCase):
    def test_rows(self):
        check_calls(
            self, ("open_rows", (KEY, 0), ()), ("open_rows", (KEY, 1), (0,)), ("open_rows", (KEY, 4), ()),
            ("open_rows", (IDLE, 1), (0,)), ("open_rows", (IDLE, 2), (0,)), ("open_rows", (EMPTY, 3), ()),
            ("widths", (IDLE,), (0, 1, 1, 0)), ("widths", (EMPTY,), (0, 0, 0, 0)),
            ("widths", ((5, 1, ((2,),)),), (0, 0)),
            ("widest", (IDLE,), 1), ("widest", (EMPTY,), 0), ("widest", (wide_key(3, 12),), 12),
            ("closing_rows", (KEY, 0), ()), ("closing_rows", (IDLE, 1), (2,)), ("closing_rows", (IDLE, 2), (0,)),
            ("closing_rows", (IDLE, 0), ()), ("closing_rows", (EMPTY, 2), ()), ("closing_rows", (FIFTH, 1), (0,)),
            ("idle_rows", (IDLE,), (1,)), ("idle_rows", (EMPTY,), ()), ("idle_rows", ((2, 2, ((0, 0),)),), (0, 1)),
        )

    def test_rooms(self):
        check_calls(
            self, ("rooms_at", (KEY, 0), ((),)), ("rooms_at", (KEY, 1), ((0,), (1,))), ("rooms_at", (KEY, 4), ((),)),
            ("rooms_at", (FIFTH, 1), ((0,), (1,), (2,), (3,), (4,))), ("rooms_at", (EMPTY, 2), ((),)),
            ("room_behind", (KEY, (1, 1), 0, (), 1), (1,)), ("room_behind", (KEY, (1, 1), 2, (1, 0), 1), (1, 1)),
            ("room_behind", (IDLE, (1, 0, 2), 1, (2,), 1), (2,)), ("room_behind", (IDLE, (1, 0, 2), 1, (2,), 2), None),
            ("room_behind", (IDLE, (1, 0, 2), 2, (2,), 1), ()), ("room_behind", (IDLE, (1, 0, 2), 2, (2,), 0), None),
            ("room_behind", (IDLE, (1, 1, 2), 2, (2,), 1), None), ("room_behind", (IDLE, (1, 1, 2), 0, (), 0), None),
            ("room_behind", (EMPTY, (), 1, (), 2), ()), ("room_behind", (FIFTH, (2,), 1, (3,), 1), (),),
        )

    def test_steps(self):
        both = [((0,), 0, (0,), 0), ((0,), 1, (0,), 0), ((0,), 2, (0,), 0)]
        check_calls(
            self, ("step_price", (PICTURE, PRICES, KEY, 0, 0), 5), ("step_price", (PICTURE, PRICES, KEY, 0, 1), 0),
            ("step_price", (PICTURE, PRICES, KEY, 2, 0), 0), ("step_price", (PICTURE, PRICES, KEY, 2, 1), None),
            ("step_price", (PAIR, (3, 4), FIFTH, 0, 4), 6), ("step_price", (PAIR, (3, 4), FIFTH, 1, 0), 16),
            ("step_price", (PAIR, (0, 0), FIFTH, 1, 0), 0), ("step_price", (PAIR, (0, 0), wide_key(2, 12), 1, 1), 0),
            ("steps_at", (STRIP, (None, 1, 1), EMPTY, (), 0), [((), 1, (), 0)]),
            ("steps_at", (STRIP, (None, 1, 3), EMPTY, (), 1), [((), 0, (), 1), ((), 1, (), 0), ((), 2, (), 1)]),
            ("steps_at", (STRIP, (1, 2, 3), IDLE, (1, 1, 2), 0), []),
            ("steps_at", (STRIP, (1, 2, 3), IDLE, (1, 0, 2), 1), [((own,), 1, (own,), 0) for own in range(3)]),
            ("steps_at", (STRIP, (1, None, 3), IDLE, (1, 0, 1), 1), []),
            ("steps_at", (STRIP, (1, 0, 3), (3, 1, ((1,), (0,), (1,))), (1,), 1),
             both + [((own,),) + step[1:2] + ((own,), 0) for own in (1, 2) for step in both]),
            ("steps_at", (STRIP, (1, None, 3), IDLE, (1, 0, 2), 2),
             [((0,), 2, (), 0), ((1,), 0, (), 3), ((2,), 1, (), 3)]),
            ("steps_at", (PAIR, (3, None), FIFTH, (2,), 1), [((1,), 4, (), 0)]),
        )

    def test_ways(self):
        check_calls(
            self, ("rooms_along", (KEY, (1, 1), (1, 1, 1, 1)), ((), (1,), (0, 1), (0, 0), ())),
            ("rooms_along", (IDLE, (1, 0, 2), (1, 1, 0)), ((), (1,), (1,), ())),
            ("rooms_along", (EMPTY, (), (2, 1, 0)), ((), (), (), ())),
            ("ways_on", (KEY, (1, 1), 0, ()), 4), ("ways_on", (KEY, (1, 1), 3, (0, 1)), 0),
            ("ways_on", (KEY, (1, 1), 3, (0, 0)), 1), ("ways_on", (IDLE, (1, 0, 2), 0, ()), 3),
            ("ways_on", (IDLE, (1, 0, 2), 2, (1,)), 1), ("ways_on", (IDLE, (1, 1, 2), 2, (1,)), 0),
            ("ways_on", (EMPTY, (), 1, ()), 9), ("ways_on", (EMPTY, (), 3, ()), 1),
            ("ways_on", (FIFTH, (2,), 2, ()), 1),
            ("how_many_ways", (IDLE, (1, 0, 2)), 3), ("how_many_ways", (IDLE, (1, 1, 2)), 0),
            ("how_many_ways", (EMPTY, ()), 27), ("how_many_ways", (FIFTH, (2,)), 5),
            ("how_many_ways", ((2, 2, ((1, 1), (1, 1))), (0, 1)), 0),
            ("way_price", (PICTURE, PRICES, KEY, (1, 0, 0, 1)), 0),
            ("way_price", (PICTURE, PRICES, KEY, (0, 1, 0, 0)), 8),
            ("way_price", (PICTURE, PRICES, KEY, (1, 0, 1, 1)), None), ("way_price", (PAIR, (3, 4), FIFTH, (4, 0)), 22),
            ("way_price", (STRIP, (None,) * 3, EMPTY, (1, 1, 2)), 0),
            ("way_price", (STRIP, (None,) * 3, EMPTY, (1, 1, 1)), None),
        )

    def test_ways_that_are_none(self):
        check_calls(
            self, ("rooms_along", (KEY, (1, 1), (1, 0, 0, 1)), UNFIT), ("rooms_along", (KEY, (1, 1), (0, 0, 0)), UNFIT),
            ("rooms_along", (KEY, (1, 1), (0, 0, 0, 1, 0)), UNFIT), ("rooms_along", (KEY, (1, 1), (0, 0, 0, 3)), UNFIT),
            ("rooms_along", (KEY, (1, 1), ()), UNFIT), ("rooms_along", (IDLE, (1, 1, 2), (1, 1, 0)), UNFIT),
        )

    def test_places_and_cells_that_are_none(self):
        for place in (-1, 5, 6, -5):
            check_calls(self, ("open_rows", (KEY, place), UNFIT), ("rooms_at", (KEY, place), UNFIT))
        for cell in (-1, 4, 5, -4):
            check_calls(
                self, ("closing_rows", (KEY, cell), no_cell(cell)),
                ("room_behind", (KEY, (1, 1), cell, (), 0), no_cell(cell)),
                ("step_price", (PICTURE, PRICES, KEY, cell, 0), no_cell(cell)),
                ("steps_at", (PICTURE, PRICES, KEY, (1, 1), cell), no_cell(cell)),
            )
        check_calls(
            self, ("room_behind", (IDLE, (1, 1, 2), 3, (), 0), no_cell(3)),
            ("steps_at", (STRIP, (1, 1, 1), IDLE, (1, 1, 2), 3), no_cell(3)),
        )

    def test_what_does_not_go_together(self):
        for message in NO_MESSAGES:
            check_calls(
                self, ("room_behind", (KEY, message, 0, (), 0), UNFIT),
                ("room_behind", (KEY, message, 9, (), 0), UNFIT),
                ("rooms_along", (KEY, message, (0, 0, 0, 1)), UNFIT), ("ways_on", (KEY, message, 0, ()), UNFIT),
                ("how_many_ways", (KEY, message), UNFIT), ("steps_at", (PICTURE, PRICES, KEY, message, 0), UNFIT),
                ("steps_at", (PICTURE, PRICES, KEY, message, 9), UNFIT),
            )
        for task in UNFITTING:
            check_calls(
                self, ("step_price", task + (0, 0), UNFIT), ("step_price", task + (9, 0), UNFIT),
                ("steps_at", task + ((1, 1), 0), UNFIT), ("steps_at", task + ((1, 1), 9), UNFIT),
                ("way_price", task + ((0, 0, 0, 1),), UNFIT),
            )

    def test_rooms_just_at_the_bound(self):
        for p, most in ((2, 9), (3, 6), (5, 4)):
            key, ones = wide_key(p, most), (1,) * most
            self.assertEqual(rooms_at(key, 1), tuple(brute.rows_of(p, most)))
            self.assertEqual(room_behind(key, ones, 0, (), 1), ones)
            self.assertEqual(room_behind(key, ones, 1, ones, 0), ())
            steps = steps_at(PAIR, (1, 1), key, ones, 1)
            rooms = [(digit,) * most for digit in range(p)]
            self.assertEqual([step[:3] for step in steps], [(room, (1 - room[0]) % p, ()) for room in rooms])
            self.assertEqual(rooms_along(key, ones, (1, 0)), ((), ones, ()))
            self.assertEqual((ways_on(key, ones, 1, ones), how_many_ways(key, ones)), (1, p))
            self.assertEqual(way_price(PAIR, (1, 1), key, (2 % p, 4 % p)), 0)

    def test_rooms_above_the_bound(self):
        for p, above in ((2, 10), (3, 7), (5, 5)):
            key, ones = wide_key(p, above), (1,) * above
            check_calls(
                self, ("widths", (key,), (0, above, 0)), ("open_rows", (key, 1), tuple(range(above))),
                ("closing_rows", (key, 1), tuple(range(above))), ("step_price", (PAIR, (1, 1), key, 0, 2 % p), 0),
                ("rooms_at", (key, 0), TOO_MANY), ("rooms_at", (key, 1), TOO_MANY), ("rooms_at", (key, 3), UNFIT),
                ("room_behind", (key, ones, 0, (), 1), TOO_MANY), ("room_behind", (key, ones, 9, (), 1), TOO_MANY),
                ("room_behind", (key, ones[1:], 9, (), 1), UNFIT),
                ("steps_at", (PAIR, (1, 1), key, ones, 0), TOO_MANY),
                ("steps_at", (PAIR, (1, 1), key, ones, 9), TOO_MANY),
                ("steps_at", (PAIR, (1,), key, ones, 0), UNFIT), ("steps_at", (PAIR, (1, 1), key, ones[1:], 0), UNFIT),
                ("rooms_along", (key, ones, (1, 0)), TOO_MANY), ("rooms_along", (key, ones, (1, 1)), TOO_MANY),
                ("ways_on", (key, ones, 0, ()), TOO_MANY), ("how_many_ways", (key, ones), TOO_MANY),
                ("how_many_ways", (key, ones[1:]), UNFIT), ("way_price", (PAIR, (1, 1), key, (1, 0)), TOO_MANY),
                ("way_price", (PAIR, (1,), key, (1, 0)), UNFIT), ("ways_on", (key, ones[1:], 0, ()), UNFIT),
                ("rooms_along", (key, ones[1:], (1, 0)), UNFIT),
            )

    def test_a_band_of_many_rows_with_few_rooms(self):
        for p, length in ((2, 5), (3, 5), (5, 4)):
            block = tuple((1,) + brute.mixed(p + row, length - 2, range(p)) + (1,) for row in range(5))
            key = band_key((p, 12, block))
            size = len(key[2])
            self.assertEqual(widest(key), length)
            message = brute.mixed(p, 12, range(p))
            self.assertEqual(how_many_ways(key, message), p ** (size - 12))
            self.assertEqual(ways_on(key, message, 0, ()), p ** (size - 12))
            self.assertEqual([open_rows(key, place) for place in range(size + 1)],
                             [brute.open_by_words(key, place) for place in range(size + 1)])
            self.assertEqual(sorted(row for cell in range(size) for row in closing_rows(key, cell)), list(range(12)))
            self.assertEqual(idle_rows(key), ())
            picture, prices = brute.mixed_picture(255, 5, 12, p), brute.mixed(p, size, (None, 0, 1000, 7))
            for cell in (0, 4, 31, size - 1):
                steps = steps_at(picture, prices, key, message, cell)
                self.assertEqual(sorted(step[:2] for step in steps), [step[:2] for step in steps])
                for room, rest, led, price in steps[::17]:
                    self.assertEqual(brute.step_by_words(key, message, cell, room, rest), led)
                    self.assertEqual(step_price(picture, prices, key, cell, rest), price)


class GuaranteesTest(unittest.TestCase):
    def test_rows_by_the_words(self):
        for key in small_keys():
            size = len(key[2])
            opened = [brute.open_by_words(key, place) for place in range(size + 1)]
            self.assertEqual([open_rows(key, place) for place in range(size + 1)], opened)
            self.assertEqual((opened[0], opened[-1]), ((), ()))
            self.assertEqual(widths(key), tuple(map(len, opened)))
            self.assertEqual(widest(key), max(map(len, opened)))
            self.assertEqual([rooms_at(key, place) for place in range(size + 1)],
                             [tuple(brute.rows_of(key[0], len(own))) for own in opened])
            last = [max([cell for cell in range(size) if key[2][cell][row]], default=None) for row in range(key[1])]
            self.assertEqual(idle_rows(key), tuple(row for row, cell in enumerate(last) if cell is None))
            for cell in range(size):
                closing = tuple(row for row, own in enumerate(last) if own == cell)
                self.assertEqual(closing_rows(key, cell), closing)

    def test_steps_by_the_words(self):
        for number, key in enumerate(small_keys()):
            p, many, columns = key
            size = len(columns)
            picture = brute.mixed_picture(5 + number % 4, 1, size, number)
            prices = brute.mixed(number, size, (None, 0, 1, 3))
            own = brute.rests_in(p, picture)
            for message in brute.rows_of(p, many)[::2]:
                for cell in range(size):
                    expected = []
                    for room, rest in itertools.product(rooms_at(key, cell), range(p)):
                        led = brute.step_by_words(key, message, cell, room, rest)
                        self.assertEqual(room_behind(key, message, cell, room, rest), led)
                        new = brute.nearest_grey(picture[0], picture[1][0][cell], p, rest)
                        price = 0 if rest == own[cell] else None
                        if prices[cell] is not None:
                            price = prices[cell] * abs(new - picture[1][0][cell]) if rest != own[cell] else 0
                        self.assertEqual(step_price(picture, prices, key, cell, rest), price)
                        if led is not None and price is not None:
                            expected.append((room, rest, led, price))
                    self.assertEqual(steps_at(picture, prices, key, message, cell), expected)

    def test_a_row_of_rests_is_a_way_exactly_if_it_reads_as_the_message(self):
        for key in small_keys():
            p, many, columns = key
            for message in brute.rows_of(p, many):
                ways = 0
                for digits in brute.rows_of(p, len(columns)):
                    right = brute.read_rests(key, digits) == message
                    along = along_by_words(key, message, digits)
                    self.assertIs(is_way(key, message, digits), right)
                    self.assertIs(along[-1] is not None, right)
                    self.assertEqual(outcome("rooms_along", (key, message, digits)), along if right else UNFIT)
                    ways += right
                self.assertEqual(how_many_ways(key, message), ways)
                self.assertIn(ways, (0, p ** (len(columns) - brute.rank_of(p, many, columns))))

    def test_sums_so_far(self):
        for key in small_keys():
            p, many, columns = key
            for digits in brute.rows_of(p, len(columns))[::3]:
                message = brute.read_rests(key, digits)
                for place, room in enumerate(rooms_along(key, message, digits)):
                    part = brute.sum_by(p, many, columns[:place], digits[:place])
                    self.assertEqual(room, tuple(part[row] for row in brute.open_by_words(key, place)))

    def test_ways_on_from_each_room(self):
        for key in small_keys():
            p, many, columns = key
            size = len(columns)
            for message in brute.rows_of(p, many)[::3]:
                counts = {(): 1}
                for cell in range(size, -1, -1):
                    for room in rooms_at(key, cell):
                        self.assertEqual(ways_on(key, message, cell, room), counts.get(room, 0))
                    if cell > 0:
                        led = {room: [brute.step_by_words(key, message, cell - 1, room, rest) for rest in range(p)]
                               for room in rooms_at(key, cell - 1)}
                        counts = {room: sum(counts.get(own, 0) for own in behind if own is not None)
                                  for room, behind in led.items()}

    def test_prices_of_ways(self):
        for picture, prices, key in brute.small_tasks(4):
            p = key[0]
            kept = brute.rests_kept(p, picture, prices)
            for digits in brute.rows_of(p, len(prices)):
                told = way_price(picture, prices, key, digits)
                steps = [step_price(picture, prices, key, cell, rest) for cell, rest in enumerate(digits)]
                self.assertEqual(told, None if None in steps else sum(steps))
                self.assertEqual(told, brute.price_of(picture, prices, p, digits) if digits in kept else None)


class ListsTest(unittest.TestCase):
    def test_each_list_is_new(self):
        told = steps_at(PICTURE, PRICES, KEY, (1, 1), 0)
        told.clear()
        self.assertEqual(steps_at(PICTURE, PRICES, KEY, (1, 1), 0), [((), 0, (0,), 5), ((), 1, (1,), 0)])


if __name__ == "__main__":
    unittest.main()
