"""What is wrong in kind where the document states an error for it: that error, and none of Python's own."""

import unittest

from tests.checks import Raises, outcome

UNFIT, TOO_MANY, NO_PAPER = Raises("Unfit"), Raises("TooMany"), Raises("NoPaper")
# None of these is a tuple, a ROW, a LOT, a PICTURE, or anything else that is made of tuples.
KINDS = (9, None, "", "01", True)
PICTURE, PRICES, MESSAGE = (7, ((3, 4), (6, 1))), (5, 2, None, 1), (1, 1)
KEY = (2, 2, ((1, 0), (1, 1), (0, 1), (1, 1)))
GUARD = (2, 1, ((1,), (1,), (0,), (1,)))
TASK = (PICTURE, PRICES, KEY, MESSAGE)
HELD = (KEY, GUARD, (1,), (1, 0))
# Each name with its arguments, and the places of those that must be of a kind, else Unfit().
UNFITTING = (
    ("row_sum", (2, (1,), (0,)), (1, 2)), ("row_less", (2, (1,), (0,)), (1, 2)),
    ("row_product", (2, (1,), (0,)), (1, 2)),
    ("are_multiples", (2, (1,), (1,)), (1, 2)), ("is_spanned", (2, 1, ((1,),), (1,)), (3,)),
    ("multiples_for", (2, 1, ((1,),), (1,)), (3,)), ("bar_row", (2, 1, ((0,),), (1,)), (3,)),
    ("ways_count", (2, 1, ((1,),), (1,)), (3,)), ("stepped_grid", (2, 1, ((1,), (0,))), ()),
    ("picture_of", (7, 2, (1, 2)), (2,)), ("touched_cells", (PICTURE, PICTURE), (0, 1)),
    ("both_prices", (PRICES, PRICES), (0, 1)), ("barred_touched", (PICTURE, PICTURE, PRICES), (0, 1, 2)),
    ("cost", (PICTURE, PICTURE, PRICES), (0, 1, 2)), ("within", (PICTURE, PICTURE, PRICES, 3), (0, 1, 2)),
    ("rest_prices", (PICTURE, PRICES, 0, 2), (0, 1)), ("with_rests", (PICTURE, 2, (0, 1, 0, 1)), (2,)),
    ("cost_of_rests", (PICTURE, PRICES, 2, (0, 1, 0, 1)), (1, 3)), ("stacked", (KEY, GUARD), (0, 1)),
    ("alike_keys", (KEY, KEY), (0, 1)), ("parting_picture", (KEY, KEY), (0, 1)), ("tells", (KEY, KEY), (0, 1)),
    ("led_by", (KEY, KEY), (0, 1)), ("untold", (KEY, KEY), (0, 1)),
    ("reading", (PICTURE, KEY), (0, 1)), ("lack", TASK[:1] + (KEY, MESSAGE), (0, 2)),
    ("reading_of_rests", (KEY, (0, 1, 0, 1)), (1,)), ("part_reading", (PICTURE, KEY, ()), (0,)),
    ("readings_along", (PICTURE, KEY), (0,)), ("reading_behind", (KEY, MESSAGE, ()), (1,)),
    ("same_reading", (PICTURE, PICTURE, KEY), (0, 1)), ("digit_cells", (KEY, 0), ()),
    ("can_be_read", (KEY, MESSAGE), (1,)), ("rests_for", (KEY, MESSAGE), (1,)), ("silent_word", (KEY, MESSAGE), (1,)),
    ("how_many_read", (KEY, 7, MESSAGE), (2,)),
    ("can_hide", TASK, (0, 1, 3)), ("hiding_rests", TASK, (0, 1, 3)), ("hiding_picture", TASK, (0, 1, 3)),
    ("word_against", TASK, (0, 1, 3)), ("how_many_rests", TASK, (0, 1, 3)), ("rests_there", TASK + (0,), (0, 1, 3)),
    ("kept_always", TASK, (0, 1, 3)), ("moved_always", TASK, (0, 1, 3)), ("least_freed", TASK, (0, 1, 3)),
    ("least_to_bar", TASK, (0, 1, 3)), ("how_many_hidden", (PRICES, KEY), (0,)), ("always_hides", (PRICES, KEY), (0,)),
    ("open_rows", (KEY, 0), (1,)), ("rooms_at", (KEY, 0), (1,)), ("room_behind", (KEY, MESSAGE, 0, (), 0), (1,)),
    ("step_price", (PICTURE, PRICES, KEY, 0, 0), (0, 1)), ("steps_at", TASK + (0,), (0, 1, 3)),
    ("rooms_along", (KEY, MESSAGE, (0, 0, 0, 1)), (1, 2)), ("ways_on", (KEY, MESSAGE, 0, ()), (1,)),
    ("how_many_ways", (KEY, MESSAGE), (1,)), ("way_price", (PICTURE, PRICES, KEY, (0, 0, 0, 1)), (0, 1)),
    ("least_slope", TASK, (0, 1, 3)), ("least_cost", TASK, (0, 1, 3)), ("cheapest_way", TASK, (0, 1, 3)),
    ("cheapest", TASK, (0, 1, 3)), ("cheapest_paper", TASK, (0, 1, 3)), ("case_of", TASK, (0, 1, 3)),
    ("ways_within", TASK + (3,), (0, 1, 3)), ("how_many_cheapest", TASK, (0, 1, 3)), ("next_cost", TASK, (0, 1, 3)),
    ("cost_with", TASK + (0, 1), (0, 1, 3)), ("may_touch", TASK, (0, 1, 3)), ("must_touch", TASK, (0, 1, 3)),
    ("columns_needed", (KEY, MESSAGE), (1,)), ("few_columns", (KEY, MESSAGE), (1,)),
    ("far_paper", (KEY, MESSAGE), (1,)),
    ("touches_needed", (PICTURE, KEY, MESSAGE), (0, 2)), ("touched_least", (PICTURE, KEY, MESSAGE), (0, 2)),
    ("worst_messages", (PICTURE, KEY), (0,)), ("left_messages", (PICTURE, KEY, ()), (0,)),
    ("is_guarded", (PICTURE, GUARD), (0, 1)), ("sums_of", (KEY, GUARD, ()), (0, 1)),
    ("forging_between", (PICTURE, PICTURE, 2), (0, 1)), ("least_false", (KEY, GUARD), (0, 1)),
    ("false_forging", (KEY, GUARD), (0, 1)), ("mends", (KEY, GUARD, 1), (0, 1)), ("most_mended", (KEY, GUARD), (0, 1)),
    ("most_told", (KEY, GUARD), (0, 1)), ("messages_behind", (KEY, GUARD, PICTURE, 1), (0, 1, 2)),
    ("mended", (KEY, GUARD, PICTURE, 1), (0, 1, 2)),
    ("forging_behind", (KEY, GUARD, PICTURE, MESSAGE, 4), (0, 1, 2, 3)),
    ("two_forgeries", (KEY, GUARD, PICTURE, 4), (0, 1, 2)),
    ("word_read", HELD, (0, 1, 2, 3)), ("read_paper", HELD, (0, 1, 2, 3)), ("hole_forging", HELD, (0, 1, 2, 3)),
    ("told_product", (KEY, GUARD, PICTURE) + HELD[2:], (0, 1, 2, 3, 4)), ("words_read", HELD[:3], (0, 1, 2)),
    ("digits_read", HELD[:3], (0, 1, 2)), ("message_read", (KEY, GUARD, PICTURE, (1,)), (0, 1, 2, 3)),
    ("messages_left", (KEY, GUARD, PICTURE, (1,)), (0, 1, 2, 3)),
    ("two_alike", (KEY, GUARD, PICTURE) + HELD[2:], (0, 1, 2, 3, 4)), ("may_lose", HELD[:3], (0, 1, 2)),
    ("lot_map", HELD[:3], (0, 1, 2)), ("may_lose_any", (KEY, GUARD, 1), (0, 1)), ("most_lost", (KEY, GUARD), (0, 1)),
    ("greatest_lots", (KEY, GUARD), (0, 1)),
)
# Each name with its arguments, and the place of the one that must be the number of a CELL.
CELLS = (
    ("grey_at", (PICTURE, 0), 1), ("with_grey", (PICTURE, 0, 1), 1), ("place_of", (PICTURE, 0), 1),
    ("neighbours", (PICTURE, 0), 1), ("roughness", (PICTURE, 0), 1), ("cheapest_grey", (PICTURE, 0, 2, 1), 1),
    ("rest_prices", (PICTURE, PRICES, 0, 2), 2), ("rests_there", TASK + (0,), 4), ("closing_rows", (KEY, 0), 1),
    ("room_behind", (KEY, MESSAGE, 0, (), 0), 2), ("step_price", (PICTURE, PRICES, KEY, 0, 0), 3),
    ("steps_at", TASK + (0,), 4), ("cost_with", TASK + (0, 1), 4),
)
# The arguments but the last, thing, of functions that judge it: their places, too, must be of a kind.
JUDGES = (
    ("is_multiples", (2, 1, ((1,),), (1,)), (3,)), ("is_bar_row", (2, 1, ((0,),), (1,)), (3,)),
    ("is_parting_picture", (KEY, KEY), (0, 1)), ("is_untold", (KEY, KEY), (0, 1)),
    ("is_silent_word", (KEY, MESSAGE), (1,)), ("is_hiding_rests", TASK, (0, 1, 3)), ("is_hiding", TASK, (0, 1, 3)),
    ("is_bar", TASK, (0, 1, 3)), ("is_way", (KEY, MESSAGE), (1,)), ("is_right_slope", TASK, (0, 1, 3)),
    ("is_cheapest", TASK, (0, 1, 3)), ("is_cheapest_paper", TASK, (0, 1, 3)), ("is_case", TASK, (0, 1, 3)),
    ("is_few_columns", (KEY, MESSAGE), (1,)), ("is_far_paper", (KEY, MESSAGE, 1), (1,)),
    ("is_touched_least", (PICTURE, KEY, MESSAGE), (0, 2)), ("is_false_forging", (KEY, GUARD, 2), (0, 1)),
    ("is_forging_behind", (KEY, GUARD, PICTURE, MESSAGE, 2), (0, 1, 2, 3)),
    ("is_two_forgeries", (KEY, GUARD, 2), (0, 1)), ("is_read_paper", HELD, (0, 1, 2, 3)),
    ("is_hole_forging", HELD, (0, 1, 2, 3)), ("is_two_alike", HELD, (0, 1, 2, 3)), ("is_lot_map", HELD[:3], (0, 1, 2)),
)
WIDE = (2, 10, ((1,) * 10,) * 4)


def with_other(args, place, value):
    """The args with value at place."""
    return args[:place] + (value,) + args[place + 1:]


class WrongKindsTest(unittest.TestCase):
    def test_what_is_no_tuple(self):
        for name, args, places in UNFITTING:
            self.assertNotEqual(outcome(name, args), UNFIT, name)
            for place in places:
                for kind in KINDS:
                    with self.subTest(name=name, place=place, kind=kind):
                        self.assertEqual(outcome(name, with_other(args, place, kind)), UNFIT)

    def test_what_is_no_cell(self):
        for name, args, place in CELLS:
            for kind in (None, "0", (0,)):
                with self.subTest(name=name, kind=kind):
                    self.assertEqual(outcome(name, with_other(args, place, kind)), Raises("NoCell", number=kind))

    def test_whatever_thing_is(self):
        for name, args, places in JUDGES:
            for place in places:
                for kind in KINDS:
                    for thing in (9, None, (1,), PICTURE):
                        with self.subTest(name=name, place=place, kind=kind, thing=thing):
                            self.assertEqual(outcome(name, with_other(args, place, kind) + (thing,)), UNFIT)

    def test_what_comes_first(self):
        for kind in KINDS:
            for name in ("least_cost", "cheapest", "case_of", "may_touch"):
                self.assertEqual(outcome(name, (PICTURE, PRICES, WIDE, kind)), UNFIT)
                self.assertEqual(outcome(name, (PICTURE, PRICES, WIDE, (0,) * 10)), TOO_MANY)
            self.assertEqual(outcome("rooms_along", (WIDE, kind, kind)), UNFIT)
            self.assertEqual(outcome("rooms_along", (WIDE, (0,) * 10, kind)), TOO_MANY)
            self.assertEqual(outcome("cost_with", TASK[:3] + ((1,), kind, 1)), UNFIT)
            self.assertEqual(outcome("rests_there", TASK[:3] + ((1,), kind)), UNFIT)
        self.assertEqual(outcome("bars", (KEY, (0, "1"))), Raises("NoCell", number="1"))
        self.assertEqual(outcome("bars", (KEY, (None, 9))), Raises("NoCell", number=None))
        self.assertEqual(outcome("reading_behind", (KEY, MESSAGE, ((None, 1, 2),))), Raises("NoCell", number=None))


if __name__ == "__main__":
    unittest.main()
