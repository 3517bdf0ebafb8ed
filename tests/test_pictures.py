"""[6]: PICTURES."""

import unittest

from drycells.pictures import (
    cell_at, cells_cut, cells_grey, cells_in, cells_mirrored, cells_turned, cut_out, edge_cells, grey_at, greys,
    is_picture, like_shape, mirrored, neighbours, picture_of, place_of, put_over, rests, shape_of, touched_cells,
    turned,
    with_grey,
)
from tests import brute
from tests.checks import Raises, check_calls, check_things

UNFIT = Raises("Unfit")
FACE = (9, ((5, 5, 8), (0, 9, 4)))
DOT = (4, ((3,),))
WHITE = (255, ((255, 0), (7, 254), (1, 255)))
SHAPES = ((1, 1), (1, 2), (2, 1), (1, 5), (5, 1), (2, 2), (2, 3), (3, 2), (3, 3), (4, 3), (8, 8))
PICTURES = [brute.patterned(top, high, wide, step)
            for top, step in ((4, 1), (5, 2), (9, 7), (255, 11)) for high, wide in SHAPES]


def no_cell(number):
    return Raises("NoCell", number=number)


def places_in(picture):
    """All pairs (row, column) of picture, in the order of its CELLS."""
    return [(row, column) for row in range(len(picture[1])) for column in range(len(picture[1][0]))]


class ThingsTest(unittest.TestCase):
    def test_is_picture(self):
        right = (FACE, DOT, WHITE, (4, ((4, 0),)), (255, ((0,) * 9,) * 9))
        wrong = (
            (3, ((0,),)), (256, ((0,),)), (9, ((10,),)), (9, ((-1,),)), (9, ()), (9, ((),)), (9, ((), ())), (9, (1, 2)),
            (9, ((1, 2), (3,))), (9, ((1,), (2, 3))), (9,), (9, ((1,),), ((1,),)), ((1,),), (((1,),), 9),
            (9, ((1,), ())),
            (9, ((1,), None)), ("9", ((1,),)), (None, ((1,),)),
        )
        check_things(self, "is_picture", (), right, wrong)

    def test_tops_and_greys_at_their_bounds(self):
        for top in range(-1, 260):
            self.assertIs(is_picture((top, ((0,),))), 4 <= top <= 255)
            for grey in (-1, 0, top, top + 1):
                self.assertIs(is_picture((top, ((grey,),))), 4 <= top <= 255 and 0 <= grey <= top)


class CallsTest(unittest.TestCase):
    def test_shapes(self):
        check_calls(
            self, ("shape_of", (DOT,), (4, 1, 1)), ("shape_of", (WHITE,), (255, 3, 2)), ("cells_in", (DOT,), 1),
            ("cells_in", (WHITE,), 6), ("greys", (DOT,), (3,)), ("greys", (WHITE,), (255, 0, 7, 254, 1, 255)),
            ("like_shape", (FACE, (9, ((0,) * 3,) * 2)), True), ("like_shape", (FACE, (8, ((0,) * 3,) * 2)), False),
            ("like_shape", (FACE, (9, ((0,) * 2,) * 3)), False), ("like_shape", (FACE, (9, ((0,) * 3,) * 3)), False),
            ("like_shape", (FACE, (9, ((0,) * 2,) * 2)), False),
        )

    def test_picture_of(self):
        check_calls(
            self, ("picture_of", (4, 1, (0, 4)), (4, ((0,), (4,)))),
            ("picture_of", (255, 3, (0, 255, 9)), (255, ((0, 255, 9),))),
            ("picture_of", (5, 2, (1, 2, 3)), UNFIT), ("picture_of", (5, 2, ()), UNFIT),
            ("picture_of", (5, 2, (1,)), UNFIT),
            ("picture_of", (5, 1, (6,)), UNFIT), ("picture_of", (5, 2, (0, -1)), UNFIT),
            ("picture_of", (5, 3, (0, 0)), UNFIT), ("picture_of", (5, 2, (0, 0, 0, 6)), UNFIT),
            ("picture_of", (3, 1, (0,)), UNFIT), ("picture_of", (256, 1, (0,)), UNFIT),
            ("picture_of", (4, 0, (0,)), UNFIT),
        )

    def test_numbers_that_are_none_of_a_cell(self):
        for picture in (FACE, DOT, WHITE):
            for cell in (-1, -100, cells_in(picture), cells_in(picture) + 1, 10 ** 9):
                check_calls(
                    self, ("grey_at", (picture, cell), no_cell(cell)), ("place_of", (picture, cell), no_cell(cell)),
                    ("with_grey", (picture, cell, 1), no_cell(cell)), ("neighbours", (picture, cell), no_cell(cell)),
                    ("with_grey", (picture, cell, 300), no_cell(cell)),
                    ("with_grey", (picture, cell, -1), no_cell(cell)),
                )

    def test_greys_of_cells(self):
        check_calls(
            self, ("grey_at", (DOT, 0), 3), ("grey_at", (WHITE, 5), 255), ("with_grey", (DOT, 0, 4), (4, ((4,),))),
            ("with_grey", (DOT, 0, 5), UNFIT), ("with_grey", (DOT, 0, -1), UNFIT), ("with_grey", (DOT, 0, 3), DOT),
            ("with_grey", (WHITE, 3, 0), (255, ((255, 0), (7, 0), (1, 255)))), ("with_grey", (WHITE, 3, 256), UNFIT),
            ("cells_grey", (WHITE, 7, 254), (2, 3)), ("cells_grey", (WHITE, 255, 255), (0, 5)),
            ("cells_grey", (WHITE, -5, 400), (0, 1, 2, 3, 4, 5)), ("cells_grey", (WHITE, 8, 7), ()),
        )

    def test_places(self):
        check_calls(
            self, ("place_of", (DOT, 0), (0, 0)), ("place_of", (WHITE, 3), (1, 1)), ("place_of", (WHITE, 4), (2, 0)),
            ("cell_at", (DOT, 0, 0), 0), ("cell_at", (WHITE, 2, 0), 4), ("cell_at", (FACE, 0, 2), 2),
            ("cell_at", (FACE, 2, 0), UNFIT), ("cell_at", (FACE, 0, 3), UNFIT), ("cell_at", (FACE, -1, 0), UNFIT),
            ("cell_at", (FACE, 0, -1), UNFIT), ("cell_at", (FACE, 1, 3), UNFIT), ("cell_at", (FACE, -1, 3), UNFIT),
        )

    def test_neighbours_and_edges(self):
        square = (4, ((0,) * 4,) * 4)
        check_calls(
            self, ("neighbours", (DOT, 0), ()), ("neighbours", (WHITE, 3), (1, 2, 5)),
            ("neighbours", (square, 5), (1, 4, 6, 9)),
            ("neighbours", ((4, ((0, 1, 2),)), 1), (0, 2)), ("neighbours", ((4, ((0,), (1,), (2,))), 1), (0, 2)),
            ("neighbours", (square, 3), (2, 7)), ("neighbours", (square, 12), (8, 13)), ("edge_cells", (DOT,), (0,)),
            ("edge_cells", (square,), (0, 1, 2, 3, 4, 7, 8, 11, 12, 13, 14, 15)),
            ("edge_cells", (WHITE,), (0, 1, 2, 3, 4, 5)),
            ("edge_cells", ((4, ((0,) * 4,) * 3),), (0, 1, 2, 3, 4, 7, 8, 9, 10, 11)),
        )

    def test_touched_cells_and_rests(self):
        check_calls(
            self, ("touched_cells", (FACE, FACE), ()), ("touched_cells", (DOT, (4, ((0,),))), (0,)),
            ("touched_cells", (FACE, (8, ((5, 5, 8), (0, 8, 4)))), UNFIT),
            ("touched_cells", (FACE, (9, ((5, 5), (8, 0), (9, 4)))), UNFIT), ("touched_cells", (FACE, DOT), UNFIT),
            ("touched_cells", (FACE, (9, ((5, 5, 8), (0, 9, 4), (0, 0, 0)))), UNFIT),
            ("rests", (WHITE, 2), (1, 0, 1, 0, 1, 1)), ("rests", (WHITE, 3), (0, 0, 1, 2, 1, 0)),
            ("rests", (WHITE, 5), (0, 0, 2, 4, 1, 0)), ("rests", (DOT, 3), (0,)),
        )

    def test_turned_and_mirrored(self):
        check_calls(
            self, ("turned", (DOT,), DOT), ("mirrored", (DOT,), DOT), ("cells_turned", (DOT,), (0,)),
            ("cells_mirrored", (DOT,), (0,)), ("turned", (WHITE,), (255, ((1, 7, 255), (255, 254, 0)))),
            ("cells_turned", (WHITE,), (4, 2, 0, 5, 3, 1)),
            ("mirrored", (WHITE,), (255, ((0, 255), (254, 7), (255, 1)))),
            ("cells_mirrored", (WHITE,), (1, 0, 3, 2, 5, 4)), ("turned", ((4, ((1, 2, 3),)),), (4, ((1,), (2,), (3,)))),
            ("turned", ((4, ((1,), (2,), (3,))),), (4, ((3, 2, 1),))),
        )

    def test_cut_out(self):
        check_calls(
            self, ("cut_out", (FACE, 1, 2, 1, 1), (9, ((4,),))), ("cells_cut", (FACE, 1, 2, 1, 1), (5,)),
            ("cut_out", (FACE, 0, 0, 2, 3), FACE), ("cells_cut", (FACE, 0, 0, 2, 3), (0, 1, 2, 3, 4, 5)),
            ("cut_out", (WHITE, 1, 0, 2, 1), (255, ((7,), (1,)))), ("cells_cut", (WHITE, 1, 0, 2, 1), (2, 4)),
        )
        for args in ((0, 0, 0, 1), (0, 0, 1, 0), (0, 0, -1, 1), (0, 0, 1, -1), (0, 0, 3, 1), (0, 0, 1, 4),
                     (-1, 0, 1, 1), (0, -1, 1, 1), (-1, 0, 2, 1), (0, -1, 1, 2), (2, 0, 1, 1), (0, 3, 1, 1),
                     (1, 0, 2, 1), (0, 2, 1, 2), (2, 0, 0, 1), (2, 3, 0, 0), (3, 0, -1, 1), (1, 2, 0, 0),
                     (1, 0, 0, 1), (0, 1, 1, 0), (1, 1, 0, 2), (0, 2, 2, 0), (1, 2, 1, -1), (1, 0, -1, 3)):
            check_calls(self, ("cut_out", (FACE,) + args, UNFIT), ("cells_cut", (FACE,) + args, UNFIT))

    def test_put_over(self):
        spot, strip = (9, ((7,),)), (9, ((1, 2, 3),))
        check_calls(
            self, ("put_over", (FACE, spot, 1, 0), (9, ((5, 5, 8), (7, 9, 4)))), ("put_over", (FACE, FACE, 0, 0), FACE),
            ("put_over", (FACE, strip, 1, 0), (9, ((5, 5, 8), (1, 2, 3)))), ("put_over", (spot, spot, 0, 0), spot),
            ("put_over", (FACE, strip, 0, 1), UNFIT), ("put_over", (FACE, strip, 2, 0), UNFIT),
            ("put_over", (FACE, spot, -1, 0), UNFIT), ("put_over", (FACE, spot, 0, -1), UNFIT),
            ("put_over", (FACE, (8, ((7,),)), 0, 0), UNFIT), ("put_over", (spot, FACE, 0, 0), UNFIT),
            ("put_over", (FACE, (10, ((7,),)), 0, 0), UNFIT), ("put_over", (FACE, spot, 0, 3), UNFIT),
            ("put_over", (FACE, (9, ((1,), (2,), (3,))), 0, 0), UNFIT),
        )


class GuaranteesTest(unittest.TestCase):
    def test_cells_and_places(self):
        for picture in PICTURES:
            self.assertIs(is_picture(picture), True)
            self.assertEqual(greys(picture), brute.greys_in(picture))
            self.assertEqual(cells_in(picture), len(greys(picture)))
            top, _, wide = shape_of(picture)
            self.assertEqual(picture_of(top, wide, greys(picture)), picture)
            for cell, (row, column) in enumerate(places_in(picture)):
                self.assertEqual(place_of(picture, cell), (row, column))
                self.assertEqual(cell_at(picture, row, column), cell)
                self.assertEqual(grey_at(picture, cell), picture[1][row][column])

    def test_neighbours_are_those_one_step_away_both_ways(self):
        for picture in PICTURES:
            places = places_in(picture)
            _, high, wide = shape_of(picture)
            for cell, (row, column) in enumerate(places):
                near = [own for own, (down, right) in enumerate(places) if abs(down - row) + abs(right - column) == 1]
                self.assertEqual(neighbours(picture, cell), tuple(near))
                self.assertTrue(all(cell in neighbours(picture, own) for own in near))
            edge = [own for own, (down, right) in enumerate(places) if down in (0, high - 1) or right in (0, wide - 1)]
            self.assertEqual(edge_cells(picture), tuple(edge))

    def test_turned_and_mirrored(self):
        for picture in PICTURES:
            top, rows = picture
            self.assertEqual(turned(picture), (top, tuple(zip(*rows[::-1]))))
            self.assertEqual(mirrored(picture), (top, tuple(row[::-1] for row in rows)))
            self.assertEqual(turned(turned(turned(turned(picture)))), picture)
            self.assertEqual(mirrored(mirrored(picture)), picture)
            tones = greys(picture)
            self.assertEqual(greys(turned(picture)), tuple(tones[cell] for cell in cells_turned(picture)))
            self.assertEqual(greys(mirrored(picture)), tuple(tones[cell] for cell in cells_mirrored(picture)))
            for cells in (cells_turned(picture), cells_mirrored(picture)):
                self.assertEqual(sorted(cells), list(range(cells_in(picture))))

    def test_cut_out_and_put_over_again(self):
        for picture in PICTURES:
            _, height, width = shape_of(picture)
            if height * width > 12:
                continue
            for row, column in places_in(picture):
                for high in range(1, height - row + 1):
                    for wide in range(1, width - column + 1):
                        part = cut_out(picture, row, column, high, wide)
                        lines = picture[1][row:row + high]
                        self.assertEqual(part, (picture[0], tuple(line[column:column + wide] for line in lines)))
                        cells = cells_cut(picture, row, column, high, wide)
                        self.assertEqual(greys(part), tuple(grey_at(picture, cell) for cell in cells))
                        self.assertEqual(put_over(picture, part, row, column), picture)
                        other = mirrored(part)
                        laid = put_over(picture, other, row, column)
                        self.assertEqual(cut_out(laid, row, column, high, wide), other)
                        self.assertTrue(set(touched_cells(picture, laid)) <= set(cells))

    def test_touched_cells_and_rests(self):
        for one in brute.pictures_of(5, 1, 2):
            for other in brute.pictures_of(5, 1, 2):
                pairs = list(zip(greys(one), greys(other)))
                touched = touched_cells(one, other)
                self.assertEqual(touched, tuple(cell for cell, (old, new) in enumerate(pairs) if old != new))
                for p in brute.PRIMES:
                    alike = all((pairs[cell][0] - pairs[cell][1]) % p == 0 for cell in touched)
                    self.assertIs(rests(one, p) == rests(other, p), alike)

    def test_with_grey_touches_this_cell_alone(self):
        for picture in PICTURES:
            for cell in range(cells_in(picture)):
                for grey in (0, picture[0]):
                    other = with_grey(picture, cell, grey)
                    self.assertTrue(like_shape(picture, other))
                    self.assertEqual(grey_at(other, cell), grey)
                    self.assertEqual(touched_cells(picture, other), (cell,) if grey_at(picture, cell) != grey else ())

    def test_cells_grey(self):
        for picture in PICTURES:
            for low, high in ((0, 0), (1, 3), (3, 1), (2, 255), (-1, 4), (5, 5)):
                told = [cell for cell, grey in enumerate(greys(picture)) if grey in range(low, high + 1)]
                self.assertEqual(cells_grey(picture, low, high), tuple(told))


if __name__ == "__main__":
    unittest.main()
