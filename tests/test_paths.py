"""Promises 5.1 to 5.3 of paths, 0.3 of is_path, and 0.2 (a), (b) and (f) as far as they speak of them."""

import unittest
from fractions import Fraction

from helping import (
    BLUE, CLEAR, GREEN, MODES, RED, STRANGE, Refusing, deep_nest, half_up, rows_of, scattered, scattered_picture,
    spoilt_ones)
from paintyard.colours import blended, faded
from paintyard.errors import BadMode, BadRule, TooGreat, Uneven
from paintyard.paths import covered, flat_rings, is_path, painted, shifted, stroked
from paintyard.pictures import is_mask, is_picture, mirrored, placed, plain_one, turned

RULES = ("odd", "wound")
WRONG_RULES = ("", "Odd", "odd ", " wound", "even", "nonzero", "o", "wind", "plain")
WRONG_MODES = ("", "Plain", "plain ", "odd", "over", "multiply")
GOOD = (
    (("to", (0, 0)), ("by", (4, -8), (8, 0)), ("to", (8, 8))),
    (("to", (-999, 999)), ("by", (1, 2), (3, 4)), ("by", (5, 6), (7, 8))),
    (("to", (1, 1)),),
)


def ring(*points):
    """A ring of lines alone."""
    return tuple([("to", point) for point in points])


def block(left, top, right, bottom):
    """A ring round a block, the way that the sun goes."""
    return ring((left, top), (right, top), (right, bottom), (left, bottom))


def backward(one):
    """The same ring the other way round, its curves too."""
    points = [piece[-1] for piece in one][::-1]
    told = [("to", points[0])]
    for piece, point in zip(one[:0:-1], points[1:]):
        told.append(("to", point) if piece[0] == "to" else ("by", piece[1], point))
    return tuple(told)


def spots(width, height):
    """For each cell, row by row, its sixteen spots, in quarters."""
    half = Fraction(1, 2)
    return [
        [(4 * x + i + half, 4 * y + j + half) for i in range(4) for j in range(4)]
        for y in range(height) for x in range(width)]


def told_mask(width, height, within):
    """The mask of a rule that is asked for each spot."""
    cells = [half_up(255 * sum(within(x, y) for x, y in cell), 16) for cell in spots(width, height)]
    return (width, height, tuple(cells))


def told_covered(path, width, height, rule):
    """5.2 told anew, spot by spot and line by line."""
    lines = [line for points in flat_rings(path) for line in zip(points, points[1:] + points[:1])]

    def within(x, y):
        down = up = 0
        for (from_x, from_y), (to_x, to_y) in lines:
            if (from_y < y) != (to_y < y):
                at = from_x + (y - from_y) * (to_x - from_x) / (to_y - from_y)
                down += at > x and from_y < to_y
                up += at > x and from_y > to_y
        return (down + up) % 2 == 1 if rule == "odd" else down != up

    return told_mask(width, height, within)


def squared_way(x, y, start, end):
    """The square of the way from a place to the nearest place on a line."""
    across, down = end[0] - start[0], end[1] - start[1]
    share = Fraction(0)
    if (across, down) != (0, 0):
        share = ((x - start[0]) * across + (y - start[1]) * down) / Fraction(across ** 2 + down ** 2)
    share = max(Fraction(0), min(Fraction(1), share))
    return (start[0] + share * across - x) ** 2 + (start[1] + share * down - y) ** 2


def told_stroked(points, wide, width, height):
    """The stroke of 5.2 told anew, spot by spot."""
    lines = list(zip(points, points[1:])) or [(points[0], points[0])]

    def within(x, y):
        return any(4 * squared_way(x, y, start, end) <= wide * wide for start, end in lines)

    return told_mask(width, height, within)


def scattered_path(seed, rings, many, low, high):
    """A path of scattered points between low and high, some rings with curves."""
    told = []
    for k in range(rings):
        numbers = [low + n for n in scattered(seed * 31 + k, 4 * many, high - low + 1)]
        points = list(zip(numbers[::2], numbers[1::2]))
        pieces = [("to", points[0])]
        for at in range(1, many):
            bent = (seed + at) % 3 == 0
            pieces.append(("by", points[at], points[many + at]) if bent else ("to", points[at]))
        told.append(tuple(pieces))
    return tuple(told)


class IsPathTest(unittest.TestCase):
    def assert_told(self, truth, *things):
        for thing in things:
            self.assertIs(is_path(thing), truth, thing)

    def test_good_ones(self):
        self.assert_told(True, GOOD, GOOD[:1], GOOD[1:], GOOD * 20, (ring((0, 0)),), (ring(*[(1, 2)] * 500),))

    def test_an_empty_path_is_one_and_an_empty_ring_is_none(self):
        self.assert_told(True, ())
        self.assert_told(False, ((),), (GOOD[0], ()), ((), GOOD[0]))

    def test_a_ring_begins_with_a_to(self):
        by = ("by", (1, 2), (3, 4))
        self.assert_told(False, ((by,),), ((by, ("to", (1, 2))),), (GOOD[0], (by,)), ((by, by),))
        self.assert_told(True, ((("to", (1, 2)), by, by),))

    def test_points_at_their_ends(self):
        for number, fine in ((-1000, False), (-999, True), (0, True), (999, True), (1000, False), (10 ** 30, False)):
            for point in ((number, 0), (0, number), (number, number)):
                self.assert_told(fine, (ring(point),), (ring((0, 0), point),), (ring((1, 1)), ring(point)))
                self.assert_told(fine, ((("to", (0, 0)), ("by", point, (0, 0))),))
                self.assert_told(fine, ((("to", (0, 0)), ("by", (0, 0), point)),))

    def test_truths_are_no_whole_numbers(self):
        for truth in (True, False):
            for point in ((truth, 0), (0, truth)):
                self.assert_told(False, (ring(point),), ((("to", (0, 0)), ("by", point, (0, 0))),))
                self.assert_told(False, ((("to", (0, 0)), ("by", (0, 0), point)),))

    def test_lists_in_place_of_tuples(self):
        self.assert_told(False, [], [GOOD[0]], ([("to", (0, 0))],), ((["to", (0, 0)],),), ((("to", [0, 0]),),))
        start = ("to", (0, 0))
        self.assert_told(False, ((start, ["by", (0, 0), (0, 0)]),), ((start, ("by", (0, 0), [1, 2])),))
        self.assert_told(False, ((([], (0, 0)),),), (([],),), ([],))

    def test_spoilt_at_one_place(self):
        one = ((("to", (0, 0)), ("by", (4, -8), (8, 0))), ring((3, 3)))
        self.assert_told(True, one)
        others = (None, True, "", "at", "To", "too", -1000, 1.0, b"to", [], ["to", (0, 0)], (1, 2, 3), ("to",), {})
        self.assert_told(False, *spoilt_ones(one, others))

    def test_words_and_points_that_do_not_fit(self):
        self.assert_told(False, ((("by", (0, 0)),),), ((("to", (0, 0), (0, 0)),),), ((("to",),),), (((),),))
        start = ("to", (0, 0))
        self.assert_told(False, ((start, ("by", (0, 0))),), ((start, ("to", (0, 0), (0, 0))),), ((start, ("by",)),))
        self.assert_told(False, ((start, ("by", (0, 0), (0, 0), (0, 0))),), ((start, ()),), ((start, ((0, 0), "to")),))
        self.assert_told(False, ((("to", ()),),), ((("to", (0,)),),), ((("to", (0, 0, 0)),),), ((("to", 0, 0),),))
        self.assert_told(False, ((("to", "00"),),), (("to", (0, 0)),), ("to", (0, 0)), ("to",), ("",))

    def test_strange_things(self):
        for thing in STRANGE:
            self.assert_told(thing == () and isinstance(thing, tuple), thing)
        self.assert_told(False, deep_nest(50000), (deep_nest(50000),), ((("to", deep_nest(50000)),),))


class FlatRingsTest(unittest.TestCase):
    def test_lines_alone(self):
        self.assertEqual(flat_rings(()), ())
        path = (ring((3, -4)), ring((1, 2), (1, 2), (0, 0)))
        self.assertEqual(flat_rings(path), (((3, -4),), ((1, 2), (1, 2), (0, 0))))

    def test_a_curve_in_eight_steps(self):
        path = ((("to", (0, 0)), ("by", (32, 0), (32, 64))),)
        self.assertEqual(flat_rings(path), ((
            (0, 0), (8, 1), (14, 4), (20, 9), (24, 16), (28, 25), (30, 36), (32, 49), (32, 64)),))

    def test_halves_are_rounded_up(self):
        # At the fourth step a quarter of both ends and half of what bends: 0.5, 1.5, -0.5, -1.5.
        for number, told in ((2, 1), (6, 2), (-2, 0), (-6, -1)):
            points = flat_rings(((("to", (0, 0)), ("by", (0, number), (number, 0))),))[0]
            self.assertEqual(points[4][0], told)
            points = flat_rings(((("to", (0, number)), ("by", (0, 0), (0, 0))),))[0]
            self.assertEqual(points[4][1], told)

    def test_numbers_below_0(self):
        path = ((("to", (-1, -1)), ("by", (-3, 5), (-8, -2))),)
        self.assertEqual(flat_rings(path), ((
            (-1, -1), (-2, 0), (-2, 1), (-3, 2), (-4, 2), (-5, 1), (-6, 1), (-7, 0), (-8, -2)),))

    def test_several_curves_in_a_row_go_on_from_the_end_of_the_last(self):
        points = flat_rings(((("to", (0, 0)), ("by", (8, 0), (8, 8)), ("by", (8, 16), (16, 16)), ("to", (0, 16))),))[0]
        self.assertEqual(len(points), 1 + 8 + 8 + 1)
        self.assertEqual((points[0], points[8], points[16], points[17]), ((0, 0), (8, 8), (16, 16), (0, 16)))
        self.assertEqual(points[8:17], flat_rings(((("to", (8, 8)), ("by", (8, 16), (16, 16))),))[0])

    def test_each_ring_for_itself(self):
        self.assertEqual(flat_rings(GOOD), tuple([flat_rings((one,))[0] for one in GOOD]))

    def test_as_the_words_tell_it(self):
        for seed in range(20):
            numbers = [n - 999 for n in scattered(seed, 6, 1999)]
            start, bend, end = numbers[:2], numbers[2:4], numbers[4:]
            told = [tuple(start)]
            for i in range(1, 9):
                told.append(tuple([
                    half_up((8 - i) ** 2 * p + 2 * i * (8 - i) * q + i ** 2 * r, 64)
                    for p, q, r in zip(start, bend, end)]))
            path = ((("to", tuple(start)), ("by", tuple(bend), tuple(end))),)
            self.assertEqual(flat_rings(path), (tuple(told),))


class CoveredTest(Refusing):
    def assert_covered(self, told, path, width, height, rules=RULES):
        for rule in rules:
            self.assertEqual(covered(path, width, height, rule), (width, height, told), rule)

    def test_a_whole_cell(self):
        self.assert_covered((0, 0, 0, 0, 255, 0), (block(4, 4, 8, 8),), 3, 2)

    def test_each_number_of_spots(self):
        for many in range(17):
            down, across = divmod(many, 4)
            path = (block(0, 0, 4, down), block(0, down, across, down + 1))
            self.assert_covered((half_up(255 * many, 16),), path, 1, 1)

    def test_quarters_of_cells(self):
        self.assert_covered((16, 32, 32, 64), (block(3, 3, 6, 6),), 2, 2)

    def test_nothing_is_covered_by_an_empty_path_nor_by_rings_of_one_and_two_points(self):
        self.assert_covered((0,) * 6, (), 3, 2)
        self.assert_covered((0,) * 6, (ring((4, 4)), ring((0, 0), (9, 8)), ring((5, 0), (5, 8), (5, 0))), 3, 2)
        self.assert_covered((0,) * 6, (ring((0, 0), (0, 0), (12, 0), (12, 0)),), 3, 2)

    def test_spots_exactly_on_a_line(self):
        # The four spots from corner to corner stand on the line: it does not stand to the right of them.
        self.assert_covered((half_up(255 * 6, 16),), (ring((0, 0), (4, 4), (0, 4)),), 1, 1)
        self.assert_covered((half_up(255 * 10, 16),), (ring((0, 0), (4, 0), (4, 4)),), 1, 1)
        self.assert_covered((half_up(255 * 6, 16),), (ring((0, 0), (4, 0), (0, 4)),), 1, 1)
        self.assert_covered((half_up(255 * 10, 16),), (ring((4, 0), (4, 4), (0, 4)),), 1, 1)

    def test_spots_just_beside_a_line(self):
        steep = ring((1, 0), (0, 99), (0, 0))
        self.assertEqual(rows_of(covered((steep,), 1, 25, "odd"))[:13], [[64]] * 12 + [[16]])
        flat = ring((0, 0), (99, 1), (0, 1))
        self.assertEqual(covered((flat,), 25, 1, "odd")[2][:13], (64,) * 12 + (16,))

    def test_lines_along_and_points_between_the_heights_of_spots(self):
        # Points stand at whole quarters and spots at halves, so a spot has a line just above or just below it.
        self.assert_covered((0, 64), (block(0, 4, 4, 5),), 1, 2)
        self.assert_covered((64, 0), (block(0, 3, 4, 4),), 1, 2)
        self.assert_covered((64,), (ring((0, 0), (2, 1), (4, 0), (4, 1), (2, 0), (0, 1)),), 1, 1)
        self.assert_covered((64,), (ring((0, 0), (2, 2), (4, 0), (4, 1), (2, 3), (0, 1)),), 1, 1)

    def test_a_point_at_which_lines_meet_is_met_once(self):
        diamond = ring((4, 0), (8, 4), (4, 8), (0, 4))
        self.assertEqual(covered((diamond,), 2, 2, "odd"), told_covered((diamond,), 2, 2, "odd"))
        self.assert_covered((159, 96, 159, 96), (diamond,), 2, 2)

    def test_rings_within_rings_both_ways_round(self):
        outer, inner = block(0, 0, 12, 12), block(4, 4, 8, 8)
        for path in ((outer, inner), (inner, outer)):
            self.assertEqual(covered(path, 3, 3, "odd")[2], (255, 255, 255, 255, 0, 255, 255, 255, 255))
            self.assertEqual(covered(path, 3, 3, "wound")[2], (255,) * 9)
        for path in ((outer, backward(inner)), (backward(outer), inner)):
            for rule in RULES:
                self.assertEqual(covered(path, 3, 3, rule)[2], (255, 255, 255, 255, 0, 255, 255, 255, 255))

    def test_the_same_ring_twice_and_more(self):
        one = block(0, 0, 4, 4)
        for many, odd in ((1, 255), (2, 0), (3, 255), (4, 0)):
            self.assert_covered((odd, 0), (one,) * many, 2, 1, ("odd",))
            self.assert_covered((255, 0), (one,) * many, 2, 1, ("wound",))
            self.assert_covered((odd, 0), (backward(one),) * many, 2, 1, ("odd",))
            self.assert_covered((255, 0), (backward(one),) * many, 2, 1, ("wound",))
        self.assert_covered((0, 0), (one, backward(one)), 2, 1)
        self.assert_covered((255, 0), (one, backward(one), one), 2, 1)

    def test_paths_beside_the_picture(self):
        for path in ((block(-8, 0, 0, 8),), (block(8, 0, 16, 8),), (block(0, -8, 8, 0),), (block(0, 8, 8, 16),)):
            self.assert_covered((0,) * 4, path, 2, 2)

    def test_paths_that_go_beyond_the_picture(self):
        self.assert_covered((255,) * 4, (block(-999, -999, 999, 999),), 2, 2)
        self.assert_covered((255, 0, 255, 0), (block(-999, -999, 4, 999),), 2, 2)
        self.assert_covered((0, 255, 0, 255), (block(4, -999, 999, 999),), 2, 2)
        self.assert_covered((255, 255, 0, 0), (block(-999, -999, 999, 4),), 2, 2)
        self.assert_covered((0, 0, 255, 255), (block(-999, 4, 999, 999),), 2, 2)

    def test_a_word_that_is_no_rule(self):
        for rule in WRONG_RULES:
            self.assert_refused(BadRule, covered, (block(0, 0, 4, 4),), 1, 1, rule)
            self.assert_refused(BadRule, covered, (), 1, 1, rule)

    def test_as_the_words_tell_it(self):
        for seed in range(30):
            path = scattered_path(seed, 1 + seed % 3, 3 + seed % 4, -6, 22)
            for rule in RULES:
                told = covered(path, 4, 3, rule)
                self.assertEqual(told, told_covered(path, 4, 3, rule))
                self.assertTrue(is_mask(told))

    def test_as_the_words_tell_it_of_great_ones(self):
        for seed in range(3):
            path = scattered_path(seed, 2, 4, -999, 999)
            for rule in RULES:
                self.assertEqual(covered(path, 9, 7, rule), told_covered(path, 9, 7, rule))
        self.assertTrue(is_mask(covered(scattered_path(9, 5, 20, -50, 450), 99, 99, "wound")))

    def test_moved_by_whole_cells_the_cover_is_moved(self):
        for seed in range(8):
            path = scattered_path(seed, 2, 5, 0, 16)
            for rule in RULES:
                cover = covered(path, 6, 5, rule)
                for x, y in ((1, 0), (0, 1), (2, 3), (-1, 0), (0, -2), (-3, 2), (7, 0)):
                    moved = covered(shifted(path, 4 * x, 4 * y), 6, 5, rule)
                    self.assertEqual(moved, placed(plain_one(6, 5, 0), cover, x, y))

    def test_rings_the_other_way_round_cover_the_same(self):
        for seed in range(12):
            path = scattered_path(seed, 3, 5, -4, 20)
            one_back = (backward(path[0]),) + path[1:]
            all_back = tuple([backward(one) for one in path])
            self.assertTrue(is_path(all_back))
            self.assertNotEqual(all_back, path)
            self.assertEqual(covered(one_back, 4, 4, "odd"), covered(path, 4, 4, "odd"))
            for rule in RULES:
                self.assertEqual(covered(all_back, 4, 4, rule), covered(path, 4, 4, rule))

    def test_the_ring_is_closed_and_may_begin_anywhere(self):
        points = ((1, 1), (14, 3), (9, 13), (3, 9))
        for at in range(4):
            begun = ring(*points[at:], *points[:at])
            for rule in RULES:
                self.assertEqual(covered((begun,), 4, 4, rule), covered((ring(*points),), 4, 4, rule))
                self.assertEqual(covered((begun + begun[:1],), 4, 4, rule), covered((begun,), 4, 4, rule))


class StrokedTest(unittest.TestCase):
    def marked(self, points, wide, width=1, height=1):
        """How many spots of each cell are within."""
        told = stroked(points, wide, width, height)
        self.assertTrue(is_mask(told))
        many = {half_up(255 * k, 16): k for k in range(17)}
        return [many[part] for part in told[2]]

    def test_one_point(self):
        # The four spots next to a corner of four quarters are as far from it as half of the root of 2.
        self.assertEqual(self.marked(((2, 2),), 1), [0])
        self.assertEqual(self.marked(((2, 2),), 2), [4])
        # The next ones are half of the root of 10 away, the last ones half of the root of 18.
        self.assertEqual(self.marked(((2, 2),), 3), [4])
        self.assertEqual(self.marked(((2, 2),), 4), [12])
        self.assertEqual(self.marked(((2, 2),), 5), [16])

    def test_the_same_point_twice(self):
        for wide in range(1, 9):
            one = stroked(((3, 2),), wide, 2, 2)
            self.assertEqual(stroked(((3, 2), (3, 2)), wide, 2, 2), one)
            self.assertEqual(stroked(((3, 2),) * 3, wide, 2, 2), one)
            self.assertEqual(one, told_stroked(((3, 2),), wide, 2, 2))

    def test_just_half_as_wide_and_just_farther(self):
        # Spots lie half a quarter from a line along them, the next ones one and a half.
        self.assertEqual(self.marked(((-9, 4), (9, 4)), 1, 1, 2), [4, 4])
        self.assertEqual(self.marked(((-9, 4), (9, 4)), 2, 1, 2), [4, 4])
        self.assertEqual(self.marked(((-9, 4), (9, 4)), 3, 1, 2), [8, 8])
        self.assertEqual(self.marked(((-9, 4), (9, 4)), 7, 1, 2), [16, 16])
        self.assertEqual(self.marked(((-9, 4), (9, 4)), 6, 1, 2), [12, 12])

    def test_just_as_far_aslant(self):
        # Of three across and four down, the spots at (0.5, 1.5) and (2.5, 2.5) are half a quarter from the line.
        self.assertEqual(self.marked(((0, 0), (12, 16)), 1)[0], 6)
        self.assertEqual(self.marked(((12, 16), (0, 0)), 1)[0], 6)
        self.assertEqual(stroked(((0, 0), (12, 16)), 1, 4, 5), told_stroked(((0, 0), (12, 16)), 1, 4, 5))
        # The spot next to (-3, 0) is farther than 3.5 quarters from it, and just two are no farther than 4.
        self.assertEqual(self.marked(((-3, 0),), 7), [0])
        self.assertEqual(self.marked(((-3, 0),), 8), [2])

    def test_along_and_across(self):
        self.assertEqual(self.marked(((0, 2), (12, 2)), 1, 3, 1), [8, 8, 8])
        self.assertEqual(self.marked(((2, 0), (2, 12)), 1, 1, 3), [8, 8, 8])
        self.assertEqual(self.marked(((0, 0), (4, 4)), 1), [4])
        self.assertEqual(self.marked(((0, 0), (4, 4)), 2), [10])

    def test_before_and_behind_a_lines_ends(self):
        self.assertEqual(self.marked(((4, 2), (8, 2)), 1, 3, 1), [0, 8, 0])
        self.assertEqual(self.marked(((4, 2), (8, 2)), 2, 3, 1), [2, 8, 2])
        self.assertEqual(self.marked(((4, 2), (8, 2)), 4, 3, 1), [6, 16, 6])
        self.assertEqual(self.marked(((2, 4), (2, 8)), 2, 1, 3), [2, 8, 2])

    def test_lines_follow_one_another_and_are_not_closed(self):
        points = ((2, 2), (10, 2), (10, 10))
        self.assertEqual(self.marked(points, 2, 3, 3), [6, 8, 8, 0, 0, 8, 0, 0, 6])
        self.assertGreater(self.marked(points + points[:1], 2, 3, 3)[4], 0)

    def test_beside_the_picture(self):
        self.assertEqual(stroked(((-99, -99), (-50, 99)), 9, 3, 2), plain_one(3, 2, 0))
        self.assertEqual(stroked(((99, 99), (12, 99)), 99, 3, 2)[:2], (3, 2))
        self.assertEqual(stroked(((-20, 4), (-10, 4)), 99, 3, 2), told_stroked(((-20, 4), (-10, 4)), 99, 3, 2))
        self.assertEqual(stroked(((6, 4),), 99, 3, 2), plain_one(3, 2, 255))

    def test_either_way_it_is_the_same(self):
        for seed in range(5):
            numbers = scattered(seed, 10, 24)
            points = tuple(zip(numbers[::2], numbers[1::2]))
            self.assertEqual(stroked(points, 3, 5, 5), stroked(points[::-1], 3, 5, 5))

    def test_as_the_words_tell_it(self):
        for seed in range(30):
            numbers = [n - 6 for n in scattered(seed, 2 + 2 * (seed % 4), 28)]
            points = tuple(zip(numbers[::2], numbers[1::2]))
            for wide in (1, 2, 3, 5, 8, 13):
                self.assertEqual(stroked(points, wide, 4, 3), told_stroked(points, wide, 4, 3))

    def test_turned_and_mirrored_with_its_points(self):
        points = ((1, 3), (13, 6), (4, 11))
        told = stroked(points, 3, 4, 3)
        self.assertEqual(stroked(tuple([(16 - x, y) for x, y in points]), 3, 4, 3), mirrored(told))
        self.assertEqual(stroked(tuple([(12 - y, x) for x, y in points]), 3, 3, 4), turned(told))

    def test_beyond_the_limits_nothing_is_refused(self):
        self.assertEqual(stroked((), 3, 2, 1), plain_one(2, 1, 0))
        for wide in (-1, 0, 100, 250):
            self.assertTrue(is_mask(stroked(((2, 1), (4, 9)), wide, 2, 1)))


class ShiftedTest(Refusing):
    def test_all_points_are_moved(self):
        path = (GOOD[0], ring((5, 6)))
        self.assertEqual(shifted(path, 10, -3), (
            (("to", (10, -3)), ("by", (14, -11), (18, -3)), ("to", (18, 5))), (("to", (15, 3)),)))

    def test_not_at_all_and_there_and_back(self):
        for path in ((), GOOD):
            self.assertEqual(shifted(path, 0, 0), path)
        path = (GOOD[0], ring((5, 6)))
        self.assertEqual(shifted(shifted(path, -77, 500), 77, -500), path)
        self.assertTrue(is_path(shifted(path, -77, 500)))

    def test_an_empty_path_goes_anywhere(self):
        self.assertEqual(shifted((), 10 ** 9, -10 ** 9), ())

    def test_up_to_the_bounds(self):
        path = ((("to", (-1, 2)), ("by", (5, -6), (3, 4))),)
        self.assertEqual(shifted(path, 994, 995)[0][1], ("by", (999, 989), (997, 999)))
        self.assertEqual(shifted(path, -998, -993)[0], (("to", (-999, -991)), ("by", (-993, -999), (-995, -989))))

    def test_beyond_the_bounds(self):
        path = ((("to", (-1, 2)), ("by", (5, -6), (3, 4))),)
        for x, y in ((995, 0), (0, 996), (-999, 0), (0, -994), (995, 996), (-999, -994), (10 ** 20, 0), (0, -10 ** 20)):
            self.assert_refused(TooGreat, shifted, path, x, y)

    def test_each_point_alone_can_be_too_far(self):
        for at in range(4):
            for point, x, y in (((9, 0), 991, 0), ((-9, 0), -991, 0), ((0, 9), 0, 991), ((0, -9), 0, -991)):
                points = [(0, 0)] * 4
                points[at] = point
                path = (ring(points[0]), (("to", points[1]), ("by", points[2], points[3])))
                self.assert_refused(TooGreat, shifted, path, x, y)


class PaintedTest(Refusing):
    PICTURE = (3, 2, ((9, 8, 7, 0), (200, 10, 60, 255), (1, 2, 3, 100), (50, 60, 70, 1), CLEAR, (255, 255, 255, 254)))
    MASK = (3, 2, (255, 0, 128, 77, 1, 254))

    def test_each_cell_is_blended_with_the_faded_colour(self):
        for mode in MODES:
            for colour in (RED, (10, 200, 99, 140), (9, 9, 9, 0)):
                told = [
                    blended(faded(colour, part), cell, mode) for cell, part in zip(self.PICTURE[2], self.MASK[2])]
                self.assertEqual(painted(self.PICTURE, self.MASK, colour, mode=mode), (3, 2, tuple(told)))
                self.assertTrue(is_picture((3, 2, tuple(told))))

    def test_some_by_hand(self):
        picture = plain_one(3, 1, (100, 100, 100, 255))
        mask = (3, 1, (0, 51, 255))
        self.assertEqual(painted(picture, mask, (200, 0, 100, 255))[2],
                         ((100, 100, 100, 255), (120, 80, 100, 255), (200, 0, 100, 255)))
        self.assertEqual(painted(picture, mask, (200, 0, 100, 255), mode="add")[2],
                         ((100, 100, 100, 255), (131, 100, 120, 255), (255, 100, 200, 255)))

    def test_the_mode_left_out_is_plain(self):
        told = painted(self.PICTURE, self.MASK, RED)
        self.assertEqual(told, painted(self.PICTURE, self.MASK, RED, mode="plain"))
        self.assertNotEqual(told, painted(self.PICTURE, self.MASK, RED, mode="times"))

    def test_the_mode_is_handed_in_by_its_name_alone(self):
        with self.assertRaises(TypeError):
            painted(self.PICTURE, self.MASK, RED, "plain")

    def test_a_mask_of_0_changes_nothing_but_the_parts_of_clear_cells(self):
        kept = (3, 2, (CLEAR,) + self.PICTURE[2][1:])
        for mode in MODES:
            self.assertEqual(painted(self.PICTURE, plain_one(3, 2, 0), RED, mode=mode), kept)
            self.assertEqual(painted(self.PICTURE, self.MASK, (9, 9, 9, 0), mode=mode), kept)

    def test_a_mask_of_255_hides_with_a_full_colour(self):
        self.assertEqual(painted(self.PICTURE, plain_one(3, 2, 255), GREEN), plain_one(3, 2, GREEN))

    def test_what_covers_paints(self):
        mask = covered((block(0, 0, 4, 4),), 2, 1, "odd")
        self.assertEqual(painted(plain_one(2, 1, BLUE), mask, RED), (2, 1, (RED, BLUE)))

    def test_not_as_great(self):
        for width, height in ((2, 3), (3, 1), (3, 3), (2, 2), (4, 2), (6, 1), (1, 6)):
            self.assert_refused(Uneven, painted, self.PICTURE, plain_one(width, height, 255), RED)

    def test_a_word_that_is_no_mode(self):
        for mode in WRONG_MODES:
            self.assert_refused(BadMode, painted, self.PICTURE, self.MASK, RED, mode=mode)
            self.assert_refused(BadMode, painted, plain_one(1, 1, RED), plain_one(1, 1, 0), CLEAR, mode=mode)

    def test_of_both_refusals_uneven_is_raised(self):
        for mode in WRONG_MODES:
            self.assert_refused(Uneven, painted, self.PICTURE, plain_one(2, 3, 255), RED, mode=mode)

    def test_scattered_ones(self):
        picture = scattered_picture(3, 7, 6)
        mask = (7, 6, tuple(scattered(4, 42, 256)))
        for mode in MODES:
            told = painted(picture, mask, (12, 200, 99, 180), mode=mode)
            self.assertTrue(is_picture(told))
            for was, part, cell in zip(picture[2], mask[2], told[2]):
                self.assertEqual(cell, blended(faded((12, 200, 99, 180), part), was, mode))


if __name__ == "__main__":
    unittest.main()
