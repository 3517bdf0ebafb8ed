"""[24]: a DESK, and the requests of which a text is made."""

import itertools
import unittest

from drycells.cheapest import cheapest, least_cost
from drycells.desk import first_desk, is_request, requests, said, scene_after, session, worked
from drycells.errors import BadLine
from drycells.hiding import is_bar
from drycells.pictures import rests
from drycells.prices import cost
from drycells.texts import key_text, picture_text, prices_text, read_row, row_text, with_touched
from tests import brute
from tests.checks import JUNK, Fits, Raises, check_call, check_calls, check_things, outcome

UNFIT, NO_PAPER, TOO_MANY = Raises("Unfit"), Raises("NoPaper"), Raises("TooMany")
LEAST = (4, ((0,),))
FIRST = ((LEAST, LEAST, (1,), (2, 0, ((),))), (), ())
PAGE, KEY = (9, ((4, 7), (2, 5))), (2, 2, ((1, 0), (0, 1), (1, 1), (0, 0)))
SCENE = (PAGE, PAGE, (1,) * 4, KEY)
MOVED = (PAGE, (9, ((4, 7), (1, 5))), (1, 5, None, 1), KEY)
SHUT = (PAGE, (9, ((4, 7), (1, 5))), (1, None, None, 1), KEY)
HERE = (SCENE, (("picture", FIRST[0]),), ())
WIDE = ((4, ((1, 2),)), (4, ((1, 2),)), (1, 1), (2, 10, ((1,) * 10,) * 2))
FIFTH = ((4, ((1, 2),)), (4, ((1, 3),)), (2, 1), (5, 1, ((3,), (4,))))
DEEDS = (
    "picture\n picture 9\n  4 7\n  2 5", "prices\n prices\n  1 - 3 0", "key\n key 2 1\n  1 0 1 1", "bar 2",
    "weigh 2 7", "put 1 0",
    "hide 10", "keep",
)
LOOKS = ("first", "held", "prices", "key", "read", "touched", "cost", "price 10", "why 10", "most", "any")
RIGHT = DEEDS + LOOKS + (
    "undo", "redo", "picture\n ", "picture\n \n ", "picture\n x", "prices\n  ", "key\n   what\n ever", "bar 0",
    "bar 9999", "weigh 0 0",
    "weigh 9999 9999", "put 1 1000", "hide -", "hide 0", "hide 012340123401", "price -", "why 4", "hide 444444444444",
)
WRONG = (
    "", " ", "\n", "picture", "picture ", "picture\n", "picture\nx", "picture 9\n 4", "bold", "Keep", "keep ", " keep",
    "keep 1", "keep\n x", "undo\n x",
    "read\n ", "bar", "bar ", "bar 01", "bar 10000", "bar -1", "bar x", "bar 1 2", "bar  1", "bar 1 ", "bar 1\n x",
    "weigh 1", "weigh 1 -", "weigh 1 2 3",
    "weigh 1  2", "put 1", "put 1 10000", "put 1 00", "put -1 1", "hide", "hide ", "hide 5", "hide 0123401234012",
    "hide --", "hide -1", "hide 1 1",
    "hide 1\n x", "price", "why", "price 1-", "look", "first 1", "held\n  x", "touched\n", "cost 2", "most 1",
    "any\nread", "undo undo",
    "picture\n x\nread", "picture\n x\n", "hide\t1", "put 1 1.", "put 1 +1",
)


def no_cell(number):
    return Raises("NoCell", number=number)


def bad_line(number):
    return Raises("BadLine", number=number)


def bad_text(place):
    return Raises("BadText", place=place)


def mixed_requests(start, size):
    """So many requests, as if at random, some of them refused."""
    choices = (
        "read", "hide 10", "hide 01", "hide 11", "hide 1", "hide -", "hide 2", "put 0 9", "put 3 4", "put 9 1",
        "put 1 10", "bar 2", "bar 0", "bar 7",
        "weigh 2 3", "weigh 1 0", "weigh 4 1", "keep", "undo", "redo", "undo", "redo", "cost", "touched", "price 01",
        "price 2", "price 1", "why 10",
        "most", "any", "first", "held", "prices", "key", "prices\n prices\n  1 2 - 4", "prices\n prices\n  1 2",
        "key\n key 2 2\n  01 11 00 10",
        "key\n key 3 1\n  1 2 0 1", "key\n key 2", "picture\n picture 5\n  1 2 3 4", "picture\n picture 5",
    )
    return brute.mixed(start, size, choices)


class ThingsTest(unittest.TestCase):
    def test_is_request(self):
        for thing in RIGHT:
            check_call(self, "is_request", (thing,), True)
        for thing in WRONG + JUNK:
            self.assertIs(is_request(thing), False, repr(thing))
        check_things(self, "is_request", (), (), (("keep",), ["keep"], 5, None, True, b"keep"))


class CallsTest(unittest.TestCase):
    def test_first_desk(self):
        self.assertEqual(first_desk(), FIRST)
        self.assertEqual(worked(first_desk(), "undo"), (FIRST, "refused NothingDone"))

    def test_requests(self):
        check_calls(
            self, ("requests", ("",), []), ("requests", ("read",), ["read"]),
            ("requests", ("read\nkeep",), ["read", "keep"]),
            ("requests", ("prices\nprices\n 1\n  2\nkey\n x",), ["prices", "prices\n 1\n  2", "key\n x"]),
            ("requests", ("\n".join(DEEDS),), list(DEEDS)), ("requests", ("read\nlook",), bad_line(2)),
            ("requests", ("read\n",), bad_line(2)),
            ("requests", ("\nread",), bad_line(1)), ("requests", (" read",), bad_line(1)),
            ("requests", (" x\n y\nread",), bad_line(1)),
            ("requests", ("read\n x\nkeep",), bad_line(1)), ("requests", ("keep\nread\n x\n y\nlook",), bad_line(2)),
            ("requests", ("picture\nread",), bad_line(1)),
            ("requests", ("picture\n x\n\n y",), bad_line(3)), ("requests", ("picture\n x\n y\nbar",), bad_line(4)),
            ("requests", ("keep\n\nkeep",), bad_line(2)),
            ("requests", ("\n",), bad_line(1)), ("requests", (" ",), bad_line(1)),
            ("requests", ("bar 1\nbar 01",), bad_line(2)),
        )

    def test_deeds(self):
        page = (9, ((4, 7), (2, 5)))
        check_calls(
            self, ("scene_after", (FIRST[0], DEEDS[0]), (page, page, (1,) * 4, (2, 0, ((),) * 4))),
            ("scene_after", (MOVED, DEEDS[0]), (page, page, (1,) * 4, (2, 0, ((),) * 4))),
            ("scene_after", (MOVED, DEEDS[1]), MOVED[:2] + ((1, None, 3, 0), KEY)),
            ("scene_after", (MOVED, DEEDS[2]), MOVED[:3] + ((2, 1, ((1,), (0,), (1,), (1,))),)),
            ("scene_after", (MOVED, "prices\n prices\n  1 2"), UNFIT),
            ("scene_after", (MOVED, "key\n key 2 0\n  -"), UNFIT),
            ("scene_after", (MOVED, "prices\n price"), bad_line(1)),
            ("scene_after", (MOVED, "prices\n prices\n  1 -1"), bad_line(2)),
            ("scene_after", (MOVED, "key\n key 2 2"), bad_line(2)), ("scene_after", (MOVED, "picture\n "), bad_line(1)),
            ("scene_after", (MOVED, "picture\n picture 9\n  4\n 4"), bad_line(3)),
            ("scene_after", (MOVED, "picture\n picture 9\n 4"), bad_line(2)),
            ("scene_after", (MOVED, "bar 1"), MOVED[:2] + ((1, None, None, 1), KEY)),
            ("scene_after", (MOVED, "bar 4"), no_cell(4)),
            ("scene_after", (MOVED, "weigh 2 9"), MOVED[:2] + ((1, 5, 9, 1), KEY)),
            ("scene_after", (MOVED, "weigh 9999 0"), no_cell(9999)),
            ("scene_after", (MOVED, "put 2 9"), (PAGE, (9, ((4, 7), (9, 5)))) + MOVED[2:]),
            ("scene_after", (MOVED, "put 2 10"), UNFIT),
            ("scene_after", (MOVED, "put 4 10"), no_cell(4)),
            ("scene_after", (MOVED, "keep"), (MOVED[1], MOVED[1]) + MOVED[2:]),
            ("scene_after", (MOVED, "hide 11"), (PAGE, cheapest(*MOVED[1:], (1, 1))) + MOVED[2:]),
            ("scene_after", (SHUT, "hide 11"), NO_PAPER),
            ("scene_after", (MOVED, "hide 1"), UNFIT), ("scene_after", (MOVED, "hide 111"), UNFIT),
            ("scene_after", (MOVED, "hide -"), UNFIT), ("scene_after", (MOVED, "hide 012"), bad_text(2)),
            ("scene_after", (WIDE, "hide 1111111111"), TOO_MANY), ("scene_after", (WIDE, "hide 111111111"), UNFIT),
            ("scene_after", (WIDE, "hide 1111111113"), bad_text(9)),
            ("scene_after", (FIRST[0], "hide -"), FIRST[0]),
            ("scene_after", (FIFTH, "hide 4"), FIFTH[:1] + (cheapest(*FIFTH[1:], (4,)),) + FIFTH[2:]),
        )
        for other in LOOKS + ("undo", "redo") + WRONG:
            check_calls(self, ("scene_after", (MOVED, other), UNFIT))
        for other in (9, None, (), ("keep",), True):
            self.assertEqual([outcome("scene_after", (MOVED, other)), outcome("said", (MOVED, other)),
                              outcome("worked", (HERE, other))], [UNFIT] * 3)

    def test_looks(self):
        check_calls(
            self, ("said", (MOVED, "first"), picture_text(PAGE)), ("said", (MOVED, "held"), picture_text(MOVED[1])),
            ("said", (MOVED, "prices"), "prices\n 1 5 - 1"),
            ("said", (MOVED, "key"), "key 2 2\n 10 01 11 00"), ("said", (MOVED, "read"), "10"),
            ("said", (SCENE, "read"), "01"), ("said", (FIRST[0], "read"), "-"),
            ("said", (MOVED, "touched"), " 2 1"), ("said", (SCENE, "touched"), "-"), ("said", (SCENE, "cost"), "0"),
            ("said", (MOVED, "cost"), UNFIT),
            ("said", ((PAGE, MOVED[1], (1, 5, 7, 1), KEY), "cost"), "7"), ("said", (MOVED, "price 10"), "0"),
            ("said", (MOVED, "price 00"), "1"),
            ("said", (MOVED, "price 11"), "5"), ("said", (SHUT, "price 11"), "-"), ("said", (MOVED, "price 1"), UNFIT),
            ("said", (MOVED, "price 3"), bad_text(0)),
            ("said", (WIDE, "price 1111111111"), TOO_MANY), ("said", (WIDE, "price 1"), UNFIT),
            ("said", (WIDE, "price 14"), bad_text(1)),
            ("said", (SHUT, "why 11"), "01"),
            ("said", (SHUT, "why 01"), Fits(lambda told: is_bar(*SHUT[1:], (0, 1), read_row(2, told)))),
            ("said", (MOVED, "why 11"), NO_PAPER),
            ("said", (MOVED, "why -"), UNFIT), ("said", (MOVED, "why 21"), bad_text(0)),
            ("said", (FIRST[0], "why -"), NO_PAPER), ("said", (MOVED, "most"), "1"), ("said", (MOVED, "any"), "1"),
            ("said", (FIRST[0], "most"), "0"), ("said", (FIRST[0], "any"), "1"),
            ("said", ((PAGE, PAGE, (1,) * 4, (2, 1, ((0,),) * 4)), "most"), "-"),
            ("said", ((PAGE, PAGE, (1,) * 4, (2, 1, ((0,),) * 4)), "any"), "-"), ("said", (WIDE, "most"), TOO_MANY),
            ("said", (WIDE, "any"), TOO_MANY),
            ("said", (FIFTH, "read"), "0"), ("said", (FIFTH, "price 3"), str(least_cost(*FIFTH[1:], (3,)))),
            ("said", (FIFTH, "price -"), UNFIT),
            ("said", (FIFTH, "touched"), " 1 3"), ("said", (FIFTH, "cost"), "1"),
        )
        for other in DEEDS + ("undo", "redo") + WRONG:
            check_calls(self, ("said", (MOVED, other), UNFIT))

    def test_worked(self):
        one = (scene_after(SCENE, "put 0 9"), HERE[1] + (("put", SCENE),), ())
        back = (SCENE, HERE[1], (("put", one[0]),))
        check_calls(
            self, ("worked", (HERE, "put 0 9"), (one, "done")), ("worked", (one, "undo"), (back, "put")),
            ("worked", (back, "redo"), (one, "put")),
            ("worked", (back, "keep"), ((SCENE, HERE[1] + (("keep", SCENE),), ()), "done")),
            ("worked", (back, "read"), (back, "01")),
            ("worked", (back, "undo"), ((FIRST[0], (), back[2] + (("picture", SCENE),)), "picture")),
            ("worked", (FIRST, "undo"), (FIRST, "refused NothingDone")),
            ("worked", (one, "redo"), (one, "refused NothingDone")),
            ("worked", (back, "put 0 10"), (back, "refused Unfit")),
            ("worked", (back, "put 7 1"), (back, "refused NoCell")),
            ("worked", (back, "hide 2"), (back, "refused BadText")),
            ("worked", (back, "hide 1"), (back, "refused Unfit")),
            ("worked", (back, "key\n key"), (back, "refused BadLine")),
            ("worked", (back, "why 00"), (back, "refused NoPaper")),
            ("worked", ((WIDE, (), ()), "most"), ((WIDE, (), ()), "refused TooMany")),
            ("worked", ((WIDE, (), ()), "hide 1111111111"), ((WIDE, (), ()), "refused TooMany")),
            ("worked", ((SHUT, (), ()), "hide 11"), ((SHUT, (), ()), "refused NoPaper")),
            ("worked", (back, "touched"), (back, "-")), ("worked", ((SHUT, (), ()), "price 11"), ((SHUT, (), ()), "-")),
            ("worked", (HERE, "prices\n prices\n  1 2 3 4"),
             ((SCENE[:2] + ((1, 2, 3, 4), KEY), HERE[1] + (("prices", SCENE),), ()), "done")),
        )
        for other in WRONG:
            check_calls(self, ("worked", (HERE, other), UNFIT))

    def test_sessions(self):
        check_calls(
            self, ("session", (HERE, ""), (HERE, ())), ("session", (HERE, "read\nlook"), bad_line(2)),
            ("session", (HERE, "keep\n"), bad_line(2)),
            ("session", (HERE, "read\nundo\nundo\nredo\nread\nredo"),
             (HERE, ("01", "picture", "refused NothingDone", "picture", "01", "refused NothingDone"))),
            ("session", (FIRST, "picture\n picture 9\n  4 7\n  2 5\nkey\n key 2 2\n  10 01 11 00\nread"), (
                (SCENE, (("picture", FIRST[0]), ("key", (PAGE, PAGE, (1,) * 4, (2, 0, ((),) * 4)))), ()),
                ("done", "done", "01"))),
            ("session", (HERE, "bar 0\nweigh 0 3\nprices"), ((SCENE[:2] + ((3, 1, 1, 1), KEY), HERE[1] + (
                ("bar", SCENE), ("weigh", SCENE[:2] + ((None, 1, 1, 1), KEY))), ()),
                ("done", "done", "prices\n 3 1 1 1"))),
        )

    def test_each_list_is_new(self):
        told = requests("read\nkeep")
        told.clear()
        self.assertEqual(requests("read\nkeep"), ["read", "keep"])


class GuaranteesTest(unittest.TestCase):
    def test_a_text_has_its_requests_in_one_way(self):
        for start in range(40):
            own = mixed_requests(start, 12)
            self.assertEqual(requests("\n".join(own)), list(own))
            self.assertTrue(all(map(is_request, own)))
        lines = ("read", "key", " x", "picture", "", " ", "bar 1", "bar")
        for size in range(4):
            for parts in itertools.product(lines, repeat=size):
                if parts == ("",):
                    continue
                self.check_requests(parts)

    def check_requests(self, parts):
        """requests of these lines, beside all ways to part them."""
        text = "\n".join(parts)
        ways = [list(cut) for cut in cuts_of(parts) if all(is_request(own) for own in cut)]
        told = outcome("requests", (text,))
        if ways:
            self.assertEqual([told], ways)
            return
        starts = [place for place, line in enumerate(parts) if place == 0 or not line.startswith(" ")]
        blocks = ["\n".join(parts[one:other]) for one, other in zip(starts, starts[1:] + [len(parts)])]
        first = next(place for place, own in zip(starts, blocks) if not is_request(own))
        self.assertEqual(told, bad_line(first + 1))

    def test_worked_in_parts(self):
        for start in range(60):
            own = mixed_requests(start, 14)
            desk, replies = session(HERE, "\n".join(own))
            at, told, states = HERE, [], [HERE]
            for request in own:
                at, reply = worked(at, request)
                told.append(reply)
                states.append(at)
            self.assertEqual((at, tuple(told)), (desk, replies))
            for cut in (3, 7, 11):
                middle, first = session(HERE, "\n".join(own[:cut]))
                self.assertEqual(middle, states[cut])
                last, rest = session(middle, "\n".join(own[cut:]))
                self.assertEqual((last, first + rest), (desk, replies))
            for (before, behind), request, reply in zip(itertools.pairwise(states), own, told):
                if reply.startswith("refused"):
                    self.assertEqual(before, behind)
                elif reply == "done":
                    self.assertEqual(behind, (behind[0], before[1] + ((request.split()[0], before[0]),), ()))
                    self.assertEqual(behind[0], scene_after(before[0], request))
                    self.assertEqual(worked(behind, "undo")[0][0], before[0])
                elif request not in ("undo", "redo"):
                    self.assertEqual((before, reply), (behind, said(before[0], request)))

    def test_undo_to_the_first_and_redo_to_the_last(self):
        for start in range(40):
            desk, _ = session(FIRST, "\n".join((DEEDS[0],) + mixed_requests(start, 16)))
            scene, past, later = desk
            words = [word for word, _ in past]
            back, told = session(desk, "\n".join(["undo"] * len(past)))
            self.assertEqual(told, tuple(words[::-1]))
            self.assertEqual((back[0], back[1], len(back[2])), (FIRST[0], (), len(past) + len(later)))
            again, told = session(back, "\n".join(["redo"] * len(past)))
            self.assertEqual((again, told), (desk, tuple(words)))
            last, told = session(desk, "\n".join(["redo"] * len(later)))
            self.assertEqual(told, tuple(word for word, _ in later)[::-1])
            self.assertEqual(last[0], later[0][1] if later else scene)
            self.assertEqual(worked(last, "redo"), (last, "refused NothingDone"))

    def test_price_hide_read_cost_why(self):
        for number, (picture, prices, key) in enumerate(brute.small_tasks(4)):
            first = brute.mixed_picture(picture[0], 1, len(prices), number + 50)
            text = "".join(word + "\n" + "\n".join(" " + line for line in own.split("\n")) + "\n" for word, own in (
                ("picture", picture_text(first)), ("prices", prices_text(prices)), ("key", key_text(key))))
            puts = "\n".join(f"put {cell} {grey}" for cell, grey in enumerate(brute.greys_in(picture)))
            desk, told = session(first_desk(), text + puts)
            self.assertEqual(set(told), {"done"})
            self.assertEqual(desk[0], (first, picture, prices, key))
            touched = said(desk[0], "touched")
            self.assertEqual(with_touched(first, "" if touched == "-" else touched), picture)
            for message in brute.rows_of(key[0], key[1])[::2]:
                digits = row_text(message)
                price = worked(desk, f"price {digits}")[1]
                later, told = session(desk, f"keep\nhide {digits}\nread\ncost\nwhy {digits}")
                if price == "-":
                    self.assertEqual(told[1], "refused NoPaper")
                    why = worked(desk, f"why {digits}")[1]
                    self.assertIn(read_row(key[0], why), brute.bars_of(picture, prices, key, message))
                    continue
                self.assertEqual(told[:4], ("done", "done", digits, price))
                self.assertEqual(told[4], "refused NoPaper")
                self.assertEqual(worked(desk, f"why {digits}")[1], "refused NoPaper")
                shown = later[0][1]
                self.assertTrue(brute.hides(picture, prices, key, message, shown))
                self.assertEqual((shown, str(cost(picture, shown, prices))),
                                 (cheapest(picture, prices, key, message), price))
                self.assertEqual(brute.read_rests(key, rests(shown, key[0])), message)

    def test_what_raises_changes_nothing(self):
        for request in ("hide 2", "put 0 10", "bar 9", "picture\n x", "redo"):
            desk, reply = worked(HERE, request)
            self.assertEqual(desk, HERE)
            self.assertTrue(reply.startswith("refused "))
        with self.assertRaises(BadLine):
            session(HERE, "put 0 9\nlook")


def cuts_of(parts):
    """All ways to part lines into texts of some lines each."""
    for marks in itertools.product((False, True), repeat=max(0, len(parts) - 1)):
        cut, own = [], list(parts[:1])
        for line, mark in zip(parts[1:], marks):
            if mark:
                cut.append("\n".join(own))
                own = []
            own.append(line)
        yield cut + (["\n".join(own)] if own else [])


if __name__ == "__main__":
    unittest.main()
