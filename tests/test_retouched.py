"""[19]: TASKS that are edited, and their STAGES."""

import itertools
import unittest

from drycells.cheapest import least_cost, least_slope
from drycells.keys import is_key
from drycells.pictures import is_picture
from drycells.prices import is_prices
from drycells.retouched import (
    all_ends, anew_and_on, edit_back, edited, edited_by, followed, is_edit, is_stage, is_task, last_kept, next_stage,
    regrown, stage_of, stage_picture, stages_by, still_cheapest, way_back,
)
from tests import brute
from tests.checks import (
    JUNK, Raises, check_call, check_calls, check_raises_of_things, check_things, outcome, same, spoilt,
)

UNFIT, NO_PAPER, TOO_MANY = Raises("Unfit"), Raises("NoPaper"), Raises("TooMany")
PICTURE, PRICES = (7, ((2, 3, 5), (1, 0, 4))), (1, None, 2, 1, 3, None)
KEY = (2, 2, ((1, 0), (1, 1), (0, 1), (1, 0), (1, 1), (0, 1)))
TASK, CHANGE, WIDER = (PICTURE, PRICES, KEY, (0, 1)), ("digit", 1, 0), ("more", (0, 0, 0, 1, 1, 1), 1)
SHOWN = (7, ((2, 3, 4), (1, 0, 4)))
IDLE = ((5, ((4, 1),)), (1, None), (3, 2, ((0, 1), (0, 2))), (0, 2))
EMPTY = ((4, ((0,),)), (None,), (5, 0, ((),)), ())
FIFTH = ((6, ((3, 6),)), (2, 1), (5, 1, ((2,), (4,))), (1,))
# What are no TASKS, as far as their parts, each one right, do not go together, or one is none.
NO_TASKS = (
    TASK[:3], TASK + ((),), (PICTURE, PRICES[:5], KEY, (0, 1)), (PICTURE, PRICES + (1,), KEY, (0, 1)),
    (PICTURE, PRICES, (2, 2, KEY[2][:5]), (0, 1)), (PICTURE, PRICES, KEY, (0,)), (PICTURE, PRICES, KEY, (0, 2)),
    (PICTURE, PRICES, KEY, (0, 1, 0)), ((7, ((2, 3, 5),)), PRICES, KEY, (0, 1)), 9, None, (), (PICTURE, PRICES, KEY, 7),
    (PICTURE, PRICES, KEY, None), (PICTURE, None, KEY, (0, 1)), (PICTURE, PRICES, None, (0, 1)),
    (9, PRICES, KEY, (0, 1)),
    (PICTURE, PRICES, (4, 2, KEY[2]), (0, 1)), (PICTURE, (-1,) * 6, KEY, (0, 1)),
)
# What are no EDITS of TASK.
NO_EDITS = (
    (), ("grey",), ("grey", 0), ("grey", 6, 1), ("grey", -1, 1), ("grey", 0, 8), ("grey", 0, -1), ("grey", 0, None),
    ("grey", None, 1), ("grey", 0, 1, 1), ("weight", 6, 1), ("weight", -1, 1), ("weight", 0, -1), ("weight", 0, "1"),
    ("weight", 0), ("weight", None, None), ("digit", 2, 0), ("digit", -1, 0), ("digit", 0, 2), ("digit", 0, -1),
    ("digit", 0, None), ("digit", None, 0), ("more", (0, 1), 0), ("more", (0,) * 7, 0), ("more", (2,) * 6, 0),
    ("more", (0,) * 6, 2), ("more", (0,) * 6), ("more", 3, 0), ("more", None, 0), ("more", (0,) * 6, None), ("less", 0),
    ("less", ()), ("less", 0, 0), ("bold", 0, 0), ("bold", (0,) * 6, 0), "less", 9, None, (9, 0, 0), (None,),
    ("", 0, 0), (("less",),),
)
EDITS = (("grey", 3, 5), ("weight", 2, None), ("weight", 1, 0), CHANGE, WIDER, ("less",), ("more", (0,) * 6, 1))
# Not hiding the MESSAGE of TASK.
NOT_SHOWN = (PICTURE, (7, ((2, 4, 5), (1, 0, 4))), (8, SHOWN[1]), (7, ((2, 3, 4),)), 9, None, "", (7, 9))
WIDE = ((4, ((2, 4),)), (1, 1), (2, 10, ((1,) * 10,) * 2), (1,) * 10)
NINE = (WIDE[0], WIDE[1], (2, 9, ((1,) * 9,) * 2), (1,) * 9)


def edits_of(task):
    """EDITS of each kind, of all CELLS and rows of task."""
    picture, prices, (p, many, _), message = task
    size = len(prices)
    for cell in range(size):
        yield from (("grey", cell, grey) for grey in (0, 3, picture[0]))
        yield from (("weight", cell, weight) for weight in (None, 0, 4))
    yield from (("digit", row, digit) for row in range(many) for digit in range(p))
    for start in range(3):
        yield ("more", brute.mixed(start + size, size, range(p)), start % p)
    yield from (("more", (0,) * size, digit) for digit in (0, 1))
    yield ("more", (0,) * (size - 1) + (1,), p - 1)
    if many:
        yield ("less",)


def edited_by_words(task, edit):
    """What becomes of task, part by part."""
    (top, rows), prices, (p, many, columns), message = task
    wide, tones, prices, message = len(rows[0]), list(brute.greys_in((top, rows))), list(prices), list(message)
    if edit[0] == "grey":
        tones[edit[1]] = edit[2]
    elif edit[0] == "weight":
        prices[edit[1]] = edit[2]
    elif edit[0] == "digit":
        message[edit[1]] = edit[2]
    elif edit[0] == "more":
        many, columns = many + 1, tuple(column + (digit,) for column, digit in zip(columns, edit[1], strict=True))
        message.append(edit[2])
    else:
        many, columns = many - 1, tuple(column[:many - 1] for column in columns)
        message.pop()
    picture = (top, tuple(tuple(tones[place:place + wide]) for place in range(0, len(tones), wide)))
    return (picture, tuple(prices), (p, many, columns), tuple(message))


def last_kept_by_words(task, edit):
    _, prices, (_, _, columns), message = task
    if edit[0] in ("grey", "weight"):
        return edit[1]
    if edit[0] == "digit":
        return max([cell for cell, column in enumerate(columns) if column[edit[1]]], default=0)
    digits, aim = (edit[1], edit[2]) if edit[0] == "more" else ([column[-1] for column in columns], message[-1])
    return min([cell for cell, digit in enumerate(digits) if digit], default=0 if aim else len(prices))


def regrown_by_words(task, slope, place):
    """The rows to place, and the least sums of its numbers and the prices of all STEPS from there."""
    key = task[2]
    steps = brute.steps_by_words(*task)
    rooms = [brute.rows_of(key[0], len(brute.open_by_words(key, own))) for own in range(len(steps) + 1)]
    costs = {room: height for room, height in zip(rooms[place], slope[place], strict=True) if height is not None}
    grown = list(slope[:place + 1])
    for cell in range(place, len(steps)):
        behind = {}
        for room, _, led, price in steps[cell]:
            if room in costs:
                behind.setdefault(led, []).append(costs[room] + price)
        costs = {led: min(found) for led, found in behind.items()}
        grown.append(tuple(costs.get(room) for room in rooms[cell + 1]))
    return tuple(grown)


def is_task_by_words(own):
    if not isinstance(own, tuple) or len(own) != 4 or not is_picture(own[0]) or not is_prices(own[0], own[1]):
        return False
    if not is_key(own[2]) or len(own[2][2]) != len(own[1]) or not isinstance(own[3], tuple):
        return False
    return len(own[3]) == own[2][1] and all(type(digit) is int and 0 <= digit < own[2][0] for digit in own[3])


def is_stage_by_words(own):
    return (isinstance(own, tuple) and len(own) == 2 and is_task_by_words(own[0])
            and same(own[1], brute.slope_by_words(own[0])))


def small_stages(each):
    """TASKS of each PRIME, as if at random, each with a MESSAGE; in some nothing can be hidden."""
    for number, (picture, prices, key) in enumerate(brute.small_tasks(each)):
        messages = brute.rows_of(key[0], key[1])
        yield (picture, prices, key, messages[number * 5 % len(messages)])


class ThingsTest(unittest.TestCase):
    def test_is_task(self):
        check_things(self, "is_task", (), (TASK, IDLE, EMPTY, FIFTH, WIDE), NO_TASKS, judge=is_task_by_words)

    def test_is_edit(self):
        for task in (TASK, IDLE, FIFTH):
            right = list(edits_of(task))
            for edit in right:
                check_call(self, "is_edit", (task, edit), True)
                for other in spoilt(edit):
                    self.assertIs(is_edit(task, other), any(same(other, own) for own in all_edits(task, other)))
        for thing in NO_EDITS + JUNK:
            self.assertIs(is_edit(TASK, thing), False)
        for edit in EDITS:
            self.assertIs(is_edit(TASK, edit), True)
        self.assertEqual([is_edit(EMPTY, ("less",)), is_edit(EMPTY, ("more", (4,), 4)),
                          is_edit(EMPTY, ("digit", 0, 0))],
                         [False, True, False])
        self.assertIs(is_edit(TASK, ["less"]), False)

    def test_is_stage(self):
        for task in (TASK, EMPTY, FIFTH):
            stage, slope = stage_of(task), least_slope(*task)
            low = ((0,),) + tuple(tuple(-9 for _ in part) for part in slope[1:])
            wrong = [(task, low), (task,), (task, slope, slope), task, slope, (task, slope[:-1]), (slope, task),
                     (task, slope + ((0,),)), [task, slope], (task, list(slope)), (task, None), (task, 9)]
            check_things(self, "is_stage", (), (stage,), wrong, judge=is_stage_by_words)
        check_things(self, "is_stage", (), (), [(task, stage_of(TASK)[1]) for task in NO_TASKS])

    def test_errors_whatever_thing_is(self):
        for task in NO_TASKS:
            check_raises_of_things(self, "is_edit", (task,), UNFIT)

    def test_a_stage_with_too_many_rooms(self):
        for slope in ((), 9, None, ((0,),), ((0,), (0,) * 1024, (0,))):
            self.assertEqual(outcome("is_stage", ((WIDE, slope),)), TOO_MANY)
        self.assertIs(is_stage((WIDE[:3] + ((1,) * 9,), ((0,),))), False)
        self.assertIs(is_stage(stage_of(NINE)), True)


def all_edits(task, other):
    """The EDITS among which other must be, if it is one: such as have the same word, and the same places."""
    size, p = len(task[1]), task[2][0]
    for cell in range(size):
        yield from (("grey", cell, grey) for grey in range(task[0][0] + 1))
        yield from (("weight", cell, weight) for weight in (None, *range(8)))
    yield from (("digit", row, digit) for row in range(task[2][1]) for digit in range(p))
    yield from (("more", digits, digit) for digits in itertools.product(range(p), repeat=size) for digit in range(p))
    if task[2][1]:
        yield ("less",)


class CallsTest(unittest.TestCase):
    def test_edited(self):
        check_calls(
            self, ("edited", (TASK, ("grey", 3, 5)), ((7, ((2, 3, 5), (5, 0, 4))),) + TASK[1:]),
            ("edited", (TASK, ("weight", 1, 0)), (PICTURE, (1, 0, 2, 1, 3, None), KEY, (0, 1))),
            ("edited", (TASK, ("weight", 2, None)), (PICTURE, (1, None, None, 1, 3, None), KEY, (0, 1))),
            ("edited", (TASK, CHANGE), (PICTURE, PRICES, KEY, (0, 0))),
            ("edited", (TASK, WIDER), (PICTURE, PRICES, (2, 3, tuple(
                own + (digit,) for own, digit in zip(KEY[2], WIDER[1]))), (0, 1, 1))),
            ("edited", (TASK, ("less",)), (PICTURE, PRICES, (2, 1, ((1,), (1,), (0,), (1,), (1,), (0,))), (0,))),
            ("edited", (EMPTY, ("more", (4,), 2)), EMPTY[:2] + ((5, 1, ((4,),)), (2,))),
            ("edited", (EMPTY, ("less",)), UNFIT),
            ("edited_by", (TASK, ()), TASK), ("edited_by", (TASK, (WIDER, ("less",))), TASK),
            ("edited_by", (TASK, (WIDER, ("digit", 2, 0), ("less",), CHANGE)), (PICTURE, PRICES, KEY, (0, 0))),
            ("edited_by", (TASK, (("less",), ("less",))), (PICTURE, PRICES, (2, 0, ((),) * 6), ())),
            ("edited_by", (TASK, (("less",),) * 3), UNFIT), ("edited_by", (TASK, (("less",), CHANGE)), UNFIT),
            ("edited_by", (TASK, (CHANGE, ("digit", 2, 0))), UNFIT), ("edited_by", (TASK, 9), UNFIT),
            ("edited_by", (TASK, None), UNFIT), ("edited_by", (TASK, (9,)), UNFIT),
        )

    def test_back(self):
        check_calls(
            self, ("edit_back", (TASK, ("grey", 3, 5)), ("grey", 3, 1)),
            ("edit_back", (TASK, ("weight", 1, 0)), ("weight", 1, None)),
            ("edit_back", (TASK, ("weight", 2, None)), ("weight", 2, 2)),
            ("edit_back", (TASK, CHANGE), ("digit", 1, 1)),
            ("edit_back", (TASK, WIDER), ("less",)), ("edit_back", (TASK, ("less",)), ("more", (0, 1, 1, 0, 1, 1), 1)),
            ("way_back", (TASK, (WIDER, CHANGE)), (("digit", 1, 1), ("less",))), ("way_back", (TASK, ()), ()),
            ("way_back", (TASK, (("less",), ("less",), ("more", (1,) * 6, 0))), (
                ("less",), ("more", (1, 1, 0, 1, 1, 0), 0), ("more", (0, 1, 1, 0, 1, 1), 1))),
            ("way_back", (TASK, (("weight", 1, 4), ("weight", 1, 6), ("grey", 0, 0))), (
                ("grey", 0, 2), ("weight", 1, 4), ("weight", 1, None))),
            ("way_back", (TASK, (CHANGE, ("digit", 5, 0))), UNFIT), ("way_back", (TASK, 9), UNFIT),
        )

    def test_last_kept(self):
        check_calls(
            self, ("last_kept", (TASK, ("grey", 3, 5)), 3), ("last_kept", (TASK, ("weight", 0, 1)), 0),
            ("last_kept", (TASK, ("digit", 0, 1)), 4), ("last_kept", (TASK, CHANGE), 5),
            ("last_kept", (TASK, WIDER), 3),
            ("last_kept", (TASK, ("less",)), 1), ("last_kept", (TASK, ("more", (0,) * 6, 0)), 6),
            ("last_kept", (TASK, ("more", (0,) * 6, 1)), 0), ("last_kept", (TASK, ("more", (1,) + (0,) * 5, 0)), 0),
            ("last_kept", (IDLE, ("digit", 0, 0)), 0), ("last_kept", (IDLE, ("digit", 1, 0)), 1),
            ("last_kept", (IDLE[:2] + ((3, 1, ((0,), (0,))), (0,)), ("less",)), 2),
            ("last_kept", (IDLE[:2] + ((3, 1, ((0,), (0,))), (2,)), ("less",)), 0),
            ("last_kept", (EMPTY, ("more", (0,), 0)), 1), ("last_kept", (EMPTY, ("more", (3,), 0)), 0),
        )

    def test_regrown(self):
        slope = least_slope(*TASK)
        high = ((0,), (3, -4), (None, 7, None, None))
        none = ((0,), (None, None))
        check_calls(
            self, ("regrown", (TASK, slope, 0), slope), ("regrown", (TASK, slope, 6), slope),
            ("regrown", (TASK, slope[:4], 3), slope),
            ("regrown", (TASK, high, 2), regrown_by_words(TASK, high, 2)),
            ("regrown", (TASK, high, 1), regrown_by_words(TASK, high, 1)),
            ("regrown", (TASK, high, 0), slope),
            ("regrown", (TASK, none, 1), none + ((None,) * 4,) * 3 + ((None,) * 2, (None,))),
            ("regrown", (TASK, slope[:6] + ((-99,),), 6), slope[:6] + ((-99,),)),
            ("regrown", (EMPTY, ((-3,),), 0), ((-3,), (-3,))), ("regrown", (EMPTY, ((5,), (9,)), 0), ((5,), (5,))),
            ("regrown", (IDLE, least_slope(*IDLE)[:1], 0), least_slope(*IDLE)),
            ("regrown", (IDLE[:3] + ((1, 2),), ((0,),), 0), ((0,), (None,) * 3, (None,))),
            ("regrown", (IDLE[:3] + ((1, 2),), ((0,), (1, 2, 3)), 1), ((0,), (1, 2, 3), (None,))),
            ("regrown", (WIDE, ((0,),), 0), TOO_MANY), ("regrown", (WIDE[:3] + ((1,),), ((0,),), 0), UNFIT),
        )

    def test_stages(self):
        stage = (TASK, least_slope(*TASK))
        later = edited_by_words(TASK, WIDER)
        last = edited_by_words(later, CHANGE)
        check_calls(
            self, ("stage_of", (TASK,), stage), ("stage_of", (EMPTY,), (EMPTY, ((0,), (0,)))),
            ("stage_of", (IDLE,), (IDLE, brute.slope_by_words(IDLE))),
            ("stage_of", (FIFTH,), (FIFTH, brute.slope_by_words(FIFTH))),
            ("next_stage", (stage, WIDER), (later, least_slope(*later))),
            ("stages_by", (stage, ()), [stage]),
            ("stages_by", (stage, (WIDER, CHANGE, ("less",))), [
                stage, (later, least_slope(*later)), (last, least_slope(*last)),
                (TASK[:3] + ((0, 0),), least_slope(*TASK[:3], (0, 0)))]),
            ("stage_picture", (stage,), SHOWN), ("stage_picture", (stage_of(EMPTY),), EMPTY[0]),
            ("stage_picture", (((PICTURE, (None,) * 6, KEY, (0, 1)), least_slope(PICTURE, (None,) * 6, KEY, (0, 1))),),
             NO_PAPER),
            ("next_stage", ((WIDE, ()), ("less",)), TOO_MANY),
            ("next_stage", ((NINE, least_slope(*NINE)), ("more", (1, 1), 0)), TOO_MANY),
            ("next_stage", ((WIDE, ()), ("bold",)), UNFIT), ("next_stage", ((WIDE, ()), ("digit", 10, 0)), UNFIT),
            ("stages_by", ((NINE, least_slope(*NINE)), (("more", (1, 1), 0), ("less",))), TOO_MANY),
            ("stages_by", ((NINE, least_slope(*NINE)), (("more", (1, 1), 0), ("less",), ("digit", 9, 0))), UNFIT),
            ("stage_of", (WIDE,), TOO_MANY), ("stage_picture", ((WIDE, ()),), TOO_MANY),
        )
        for task in NO_TASKS:
            check_calls(self, ("next_stage", ((task, stage[1]), CHANGE), UNFIT),
                        ("stages_by", ((task, stage[1]), ()), UNFIT),
                        ("stage_picture", ((task, stage[1]),), UNFIT), ("stage_of", (task,), UNFIT))
        for own in (9, None, (), (TASK,)):
            check_calls(self, ("next_stage", (own, CHANGE), UNFIT), ("stages_by", (own, ()), UNFIT),
                        ("stage_picture", (own,), UNFIT))
        for edits in (9, None, (9,), (CHANGE, None)):
            check_calls(self, ("stages_by", (stage, edits), UNFIT))

    def test_followed(self):
        check_calls(
            self, ("followed", (TASK, SHOWN, ("grey", 3, 5)), (7, ((2, 3, 4), (5, 0, 4)))),
            ("followed", (TASK, SHOWN, ("grey", 2, 0)), SHOWN),
            ("followed", (TASK, SHOWN, ("grey", 1, 0)), (7, ((2, 0, 4), (1, 0, 4)))),
            ("followed", (TASK, SHOWN, CHANGE), SHOWN),
            ("followed", (TASK, SHOWN, ("weight", 2, None)), SHOWN), ("followed", (TASK, SHOWN, ("less",)), SHOWN),
            ("followed", (WIDE[:3] + ((0,) * 10,), WIDE[0], ("grey", 0, 0)), (4, ((0, 4),))),
            ("still_cheapest", (TASK, SHOWN, ("weight", 2, 9)), False),
            ("still_cheapest", (TASK, SHOWN, ("weight", 0, 0)), True),
            ("still_cheapest", (TASK, SHOWN, ("grey", 3, 5)), True),
            ("still_cheapest", (TASK, SHOWN, ("grey", 3, 2)), False),
            ("still_cheapest", (TASK, SHOWN, ("weight", 2, None)), False),
            ("still_cheapest", (TASK, SHOWN, CHANGE), False),
            ("still_cheapest", (TASK, SHOWN, ("more", (0,) * 6, 1)), False),
            ("still_cheapest", (TASK, SHOWN, ("more", (0,) * 6, 0)), True),
            ("still_cheapest", (WIDE[:3] + ((0,) * 10,), WIDE[0], ("less",)), TOO_MANY),
            ("still_cheapest", (NINE[:3] + ((0,) * 9,), WIDE[0], ("more", (1, 1), 0)), TOO_MANY),
            ("still_cheapest", (NINE[:3] + ((0,) * 9,), WIDE[0], ("less",)), True),
            ("anew_and_on", (TASK, SHOWN, CHANGE), (0, 2)), ("anew_and_on", (TASK, SHOWN, ("weight", 2, None)), (4, 0)),
            ("anew_and_on", (TASK, SHOWN, ("more", (0,) * 6, 1)), (None, None)),
            ("anew_and_on", (TASK, SHOWN, ("less",)), (0, 0)),
            ("anew_and_on", (TASK, SHOWN, ("grey", 3, 5)), UNFIT),
            ("anew_and_on", (TASK, SHOWN, ("grey", 9, 5)), UNFIT),
            ("anew_and_on", (WIDE[:3] + ((0,) * 10,), WIDE[0], ("less",)), TOO_MANY),
            ("anew_and_on", (WIDE[:3] + ((0,) * 10,), WIDE[0], ("grey", 0, 0)), UNFIT),
            ("anew_and_on", (NINE[:3] + ((0,) * 9,), WIDE[0], ("more", (1, 1), 0)), TOO_MANY),
        )
        for shown in NOT_SHOWN:
            for name in ("followed", "still_cheapest", "anew_and_on"):
                check_calls(self, (name, (TASK, shown, CHANGE), UNFIT), (name, (WIDE, shown, ("less",)), UNFIT))

    def test_what_are_no_tasks_and_no_edits(self):
        for task in NO_TASKS:
            check_calls(
                self, ("edited", (task, CHANGE), UNFIT), ("edited_by", (task, ()), UNFIT),
                ("edit_back", (task, CHANGE), UNFIT),
                ("way_back", (task, ()), UNFIT), ("last_kept", (task, CHANGE), UNFIT),
                ("regrown", (task, ((0,),), 0), UNFIT),
                ("followed", (task, SHOWN, CHANGE), UNFIT), ("still_cheapest", (task, SHOWN, CHANGE), UNFIT),
                ("anew_and_on", (task, SHOWN, CHANGE), UNFIT),
            )
        for edit in NO_EDITS:
            check_calls(
                self, ("edited", (TASK, edit), UNFIT), ("edited_by", (TASK, (CHANGE, edit)), UNFIT),
                ("edit_back", (TASK, edit), UNFIT), ("way_back", (TASK, (edit,)), UNFIT),
                ("last_kept", (TASK, edit), UNFIT),
                ("next_stage", (stage_of(TASK), edit), UNFIT), ("stages_by", (stage_of(TASK), (edit, CHANGE)), UNFIT),
                ("followed", (TASK, SHOWN, edit), UNFIT), ("still_cheapest", (TASK, SHOWN, edit), UNFIT),
                ("anew_and_on", (TASK, SHOWN, edit), UNFIT),
            )

    def test_all_ends(self):
        ten = (2, 10, tuple(tuple(int(at == row) for row in range(10)) for at in range(10)))
        check_calls(
            self, ("all_ends", (PICTURE, PRICES, KEY), (0, 2, 1, 3)), ("all_ends", EMPTY[:3], (0,)),
            ("all_ends", (PICTURE, (None,) * 6, KEY), (0, None, None, None)), ("all_ends", FIFTH[:3], (0, 1, 2, 2, 3)),
            ("all_ends", IDLE[:3], (0, 1, 1) + (None,) * 6),
            ("all_ends", ((4, ((0,) * 10,)), (1,) * 10, ten), TOO_MANY),
            ("all_ends", ((4, ((0,) * 10,)), (1,) * 9, ten), UNFIT),
            ("all_ends", (PICTURE, PRICES, (2, 2, KEY[2][:5])), UNFIT), ("all_ends", (9, PRICES, KEY), UNFIT),
            ("all_ends", (PICTURE, None, KEY), UNFIT), ("all_ends", (PICTURE, PRICES, 9), UNFIT),
        )

    def test_each_list_is_new(self):
        stage = stage_of(TASK)
        told = stages_by(stage, (CHANGE,))
        told.clear()
        self.assertEqual(stages_by(stage, (CHANGE,)), [stage, next_stage(stage, CHANGE)])


class GuaranteesTest(unittest.TestCase):
    def test_next_stages_beside_those_of_what_is_edited(self):
        for task in small_stages(3):
            stage = stage_of(task)
            self.assertEqual(stage, (task, brute.slope_by_words(task)))
            self.assertIs(is_stage(stage), True)
            for edit in edits_of(task):
                later, kept = edited_by_words(task, edit), last_kept_by_words(task, edit)
                self.assertEqual(edited(task, edit), later)
                slope = brute.slope_by_words(later)
                self.assertEqual(next_stage(stage, edit), (later, slope))
                self.assertEqual(last_kept(task, edit), kept)
                self.assertEqual(slope[:kept + 1], stage[1][:kept + 1])
                back = edit_back(task, edit)
                self.assertEqual(edited(later, back), task)
                self.assertEqual(next_stage((later, slope), back), stage)
                self.assertIs(is_edit(later, back), True)

    def test_edits_behind_one_another(self):
        for number, task in enumerate(small_stages(2)):
            edits, own = [], task
            for start in range(6):
                choices = list(edits_of(own))
                edits.append(choices[(number * 13 + start * 29) % len(choices)])
                own = edited_by_words(own, edits[-1])
            self.assertEqual(edited_by(task, tuple(edits)), own)
            back = way_back(task, tuple(edits))
            self.assertEqual(edited_by(own, back), task)
            self.assertEqual(edited_by(task, way_back(own, back)), own)
            stages = stages_by(stage_of(task), tuple(edits))
            self.assertEqual(len(stages), 7)
            for (at, slope), edit in itertools.zip_longest(stages, edits):
                self.assertEqual(slope, brute.slope_by_words(at))
                self.assertTrue(edit is None or edited(at, edit) in [other for other, _ in stages])
            self.assertEqual(stages[-1][0], own)
            told = outcome("stage_picture", (stages[-1],))
            self.assertEqual(told, outcome("cheapest", own))
            self.assertEqual(stages_by(stages[-1], back)[-1], stages[0])

    def test_regrown_from_any_numbers(self):
        for number, task in enumerate(small_stages(3)):
            slope = least_slope(*task)
            for place in range(len(slope)):
                heights = brute.mixed(number + place, len(slope[place]), (None, -7, -1, 0, 2, 9))
                other = slope[:place] + (heights,)
                self.assertEqual(regrown(task, other, place), regrown_by_words(task, other, place))
                self.assertEqual(regrown(task, other + ((),) * 3, place), regrown_by_words(task, other, place))
                self.assertEqual(regrown(task, slope, place), slope)

    def test_followed_pictures_beside_all_ways(self):
        for task in small_stages(2):
            picture, prices, key, message = task
            hidden = brute.hidings_of(picture, prices, key)[message]
            for digits in hidden[:3]:
                shown = brute.nearest_picture(picture, key[0], digits)
                for edit in edits_of(task):
                    later = edited_by_words(task, edit)
                    own = shown
                    if edit[0] == "grey" and edit[1] not in brute.touched_between(picture, shown):
                        own = edited_by_words((shown,) + task[1:], edit)[0]
                    self.assertEqual(followed(task, shown, edit), own)
                    found = [brute.price_of(later[0], later[1], key[0], way)
                             for way in brute.hidings_of(*later[:3])[later[3]]]
                    fits = brute.hides(*later, own)
                    least = fits and brute.cost_between(later[0], own, later[1]) == min(found)
                    self.assertIs(still_cheapest(task, shown, edit), least)
                    if edit[0] == "grey":
                        continue
                    anew, on = anew_and_on(task, shown, edit)
                    self.assertEqual(anew, min(found, default=None))
                    self.assertEqual(on, least_cost(shown, *later[1:]))
                    touched = brute.touched_between(picture, shown)
                    if all(later[1][cell] is not None for cell in touched) and on is not None:
                        self.assertLessEqual(anew, brute.cost_between(picture, shown, later[1]) + on)

    def test_lesser_weights(self):
        for task in small_stages(4):
            least = least_cost(*task)
            for cell, weight in enumerate(task[1]):
                for lesser in (0, 1, 3):
                    if least is not None and (weight is None or lesser <= weight):
                        stage = next_stage(stage_of(task), ("weight", cell, lesser))
                        self.assertLessEqual(stage[1][-1][0], least)

    def test_all_ends_beside_each_message(self):
        for picture, prices, key in brute.small_tasks(5):
            self.assertEqual(all_ends(picture, prices, key), tuple(
                least_cost(picture, prices, key, message) for message in brute.rows_of(key[0], key[1])))

    def test_64_cells(self):
        for p, many in ((2, 9), (3, 6), (5, 4)):
            key, picture = brute.mixed_key(p, many, 64, p), brute.mixed_picture(255, 8, 8, p)
            prices, message = brute.mixed(p, 64, (None, 3, 1000, 20)), brute.mixed(p, many, range(p))
            task = (picture, prices, key, message)
            stage = stage_of(task)
            self.assertEqual(all_ends(picture, prices, key)[brute.rows_of(p, many).index(message)], stage[1][-1][0])
            for edit in (("grey", 40, 7), ("weight", 33, None), ("digit", 1, 0), ("less",)):
                later = next_stage(stage, edit)
                self.assertEqual(later[1], least_slope(*later[0]))
                self.assertEqual(next_stage(later, edit_back(task, edit)), stage)
            self.assertIs(still_cheapest(task, stage_picture(stage), ("weight", 1, None)), prices[1] is None or (
                stage_picture(stage)[1][0][1] == picture[1][0][1]))


if __name__ == "__main__":
    unittest.main()
