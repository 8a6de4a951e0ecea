"""Promises 0.5 and 2.1 to 2.3 of pictures, and 0.2 (a) to (c) as far as they speak of them."""

import unittest

from helping import BLUE, CLEAR, GREEN, MODES, RED, STRANGE, WHITE, Refusing, deep_nest, numbered, rows_of
from paintyard.colours import blended, faded, mean_colour
from paintyard.errors import BadMode, NoCell, TooGreat, Uneven
from paintyard.pictures import (
    beside, cell_at, cut_out, grown, is_mask, is_picture, laid, mirrored, placed, plain_one, shrunk, sized, stacked,
    turned, with_cell)

FAR = 10 ** 20
A, B, C, D, E, F = [(k, k, k, 255) for k in range(1, 7)]
SIX = (3, 2, (A, B, C, D, E, F))
MIXED = (3, 2, ((9, 8, 7, 0), (200, 10, 60, 255), (1, 2, 3, 100), (50, 60, 70, 1), CLEAR, (255, 255, 255, 254)))


class IsGridTest(unittest.TestCase):
    """is_picture and is_mask, which differ in their cells alone."""

    KINDS = ((is_picture, (1, 2, 3, 4)), (is_mask, 7))

    def test_good_ones(self):
        for ask, cell in self.KINDS:
            for width, height in ((1, 1), (2, 3), (3, 2), (1, 99), (99, 1), (99, 99)):
                self.assertIs(ask((width, height, (cell,) * (width * height))), True)

    def test_widths_and_heights(self):
        for ask, cell in self.KINDS:
            for side, fine in ((-1, False), (0, False), (1, True), (99, True), (100, False)):
                many = max(side, 0)
                self.assertIs(ask((side, 1, (cell,) * many)), fine)
                self.assertIs(ask((1, side, (cell,) * many)), fine)
            self.assertIs(ask((-1, -1, (cell,))), False)
            self.assertIs(ask((0, 0, ())), False)

    def test_truths_are_no_whole_numbers(self):
        for ask, cell in self.KINDS:
            self.assertIs(ask((True, 1, (cell,))), False)
            self.assertIs(ask((1, True, (cell,))), False)
            self.assertIs(ask((False, 1, ())), False)
        self.assertIs(is_mask((1, 1, (True,))), False)
        self.assertIs(is_mask((1, 1, (False,))), False)
        self.assertIs(is_picture((1, 1, ((True, 0, 0, 0),))), False)
        self.assertIs(is_picture((1, 1, ((0, 0, 0, False),))), False)

    def test_one_cell_too_few_or_too_many(self):
        for ask, cell in self.KINDS:
            for many, fine in ((0, False), (5, False), (6, True), (7, False), (12, False)):
                self.assertIs(ask((3, 2, (cell,) * many)), fine)
            self.assertIs(ask((99, 99, (cell,) * (99 * 99 - 1))), False)
            self.assertIs(ask((99, 99, (cell,) * (99 * 99 + 1))), False)

    def test_parts_at_their_ends(self):
        for worth, fine in ((-1, False), (0, True), (255, True), (256, False)):
            for at in range(4):
                cells = [7, 7, 7, 7]
                cells[at] = worth
                self.assertIs(is_mask((2, 2, tuple(cells))), fine)
                for part in range(4):
                    colour = [1, 2, 3, 4]
                    colour[part] = worth
                    pictured = [(1, 2, 3, 4)] * 4
                    pictured[at] = tuple(colour)
                    self.assertIs(is_picture((2, 2, tuple(pictured))), fine)

    def test_spoilt_at_one_place(self):
        for ask, cell in self.KINDS:
            good = (2, 2, (cell,) * 4)
            for worth in STRANGE + (2.0, "2", [2], (2,)):
                for at in range(3):
                    spoilt = list(good)
                    spoilt[at] = worth
                    self.assertIs(ask(tuple(spoilt)), False, repr(spoilt))
            for at in range(4):
                for worth in (None, "7", -1, 256, True, 7.0, (), [], (1, 2, 3), (1, 2, 3, 4, 5), [1, 2, 3, 4], (7,), [7]):
                    cells = [cell] * 4
                    cells[at] = worth
                    self.assertIs(ask((2, 2, tuple(cells))), False, repr(worth))

    def test_lists_outside_and_within(self):
        for ask, cell in self.KINDS:
            self.assertIs(ask([2, 2, (cell,) * 4]), False)
            self.assertIs(ask((2, 2, [cell] * 4)), False)
            self.assertIs(ask([2, 2, [cell] * 4]), False)
            self.assertIs(ask([(2, 2, (cell,) * 4)]), False)

    def test_a_picture_is_no_mask_and_a_mask_no_picture(self):
        self.assertIs(is_mask((1, 1, ((1, 2, 3, 4),))), False)
        self.assertIs(is_picture((1, 1, (7,))), False)

    def test_too_few_and_too_many_things(self):
        for ask, cell in self.KINDS:
            self.assertIs(ask((1, 1)), False)
            self.assertIs(ask((1, 1, (cell,), 1)), False)
            self.assertIs(ask((1, (cell,))), False)
            self.assertIs(ask(((1, 1, (cell,)),)), False)

    def test_any_thing(self):
        for ask, cell in self.KINDS:
            for thing in STRANGE:
                self.assertIs(ask(thing), False, repr(thing))
            self.assertIs(ask(deep_nest(5000)), False)
            self.assertIs(ask((1, 1, deep_nest(5000))), False)

    def test_what_is_asked_of_is_not_changed(self):
        thing = [1, 1, [[1, 2, 3, 4]]]
        is_picture(thing)
        is_mask(thing)
        self.assertEqual(thing, [1, 1, [[1, 2, 3, 4]]])


class PlainOneTest(unittest.TestCase):
    def test_by_hand(self):
        self.assertEqual(plain_one(2, 3, RED), (2, 3, (RED,) * 6))
        self.assertEqual(plain_one(1, 1, CLEAR), (1, 1, (CLEAR,)))

    def test_is_a_picture(self):
        for width, height in ((1, 1), (1, 99), (99, 1), (99, 99), (5, 7)):
            picture = plain_one(width, height, (1, 2, 3, 4))
            self.assertTrue(is_picture(picture))
            self.assertEqual(picture[:2], (width, height))


class CellsTest(Refusing):
    BESIDE = ((-1, 0), (0, -1), (3, 0), (0, 2), (3, 2), (-1, -1), (2, 2), (3, 1), (0, 6), (FAR, 0), (0, FAR),
              (-FAR, 0), (0, -FAR), (-1, 1), (-3, 0))

    def test_cell_at(self):
        self.assertEqual([cell_at(SIX, x, y) for y in (0, 1) for x in (0, 1, 2)], [A, B, C, D, E, F])

    def test_cell_at_beside(self):
        for x, y in self.BESIDE:
            self.assert_refused(NoCell, cell_at, SIX, x, y)

    def test_with_cell(self):
        for at in range(6):
            cells = [A, B, C, D, E, F]
            cells[at] = RED
            self.assertEqual(with_cell(SIX, at % 3, at // 3, RED), (3, 2, tuple(cells)))
        self.assertEqual(SIX, (3, 2, (A, B, C, D, E, F)))

    def test_with_cell_beside(self):
        for x, y in self.BESIDE:
            self.assert_refused(NoCell, with_cell, SIX, x, y, RED)

    def test_what_is_set_is_told(self):
        picture = numbered(7, 5)
        for y in range(5):
            for x in range(7):
                changed = with_cell(picture, x, y, (1, 2, 3, 4))
                self.assertTrue(is_picture(changed))
                self.assertEqual(cell_at(changed, x, y), (1, 2, 3, 4))
                self.assertEqual(with_cell(changed, x, y, cell_at(picture, x, y)), picture)


class CutOutTest(Refusing):
    def test_by_hand(self):
        self.assertEqual(cut_out(SIX, 0, 0, 3, 2), SIX)
        self.assertEqual(cut_out(SIX, 1, 0, 2, 2), (2, 2, (B, C, E, F)))
        self.assertEqual(cut_out(SIX, 2, 1, 1, 1), (1, 1, (F,)))
        self.assertEqual(cut_out(SIX, 0, 1, 3, 1), (3, 1, (D, E, F)))
        self.assertEqual(cut_out(SIX, 1, 0, 1, 2), (1, 2, (B, E)))

    def test_no_cell(self):
        for width, height in ((0, 1), (1, 0), (0, 0), (-1, 1), (1, -1), (-1, -1), (-FAR, 1)):
            self.assert_refused(NoCell, cut_out, SIX, 0, 0, width, height)
            self.assert_refused(NoCell, cut_out, SIX, 1, 1, width, height)
            self.assert_refused(NoCell, cut_out, SIX, 3, 2, width, height)

    def test_not_all_within(self):
        for x, y, width, height in (
                (0, 0, 4, 2), (0, 0, 3, 3), (1, 0, 3, 2), (0, 1, 3, 2), (-1, 0, 2, 2), (0, -1, 2, 2), (3, 0, 1, 1),
                (0, 2, 1, 1), (-1, 0, 1, 1), (-1, -1, 5, 5), (FAR, 0, 1, 1), (0, -FAR, 1, 1), (0, 0, FAR, 1),
                (-FAR, 0, FAR, 1), (0, -1, 1, 1)):
            self.assert_refused(NoCell, cut_out, SIX, x, y, width, height)

    def test_every_place_and_size(self):
        picture = numbered(4, 3)
        for x in range(-1, 5):
            for y in range(-1, 4):
                for width in range(-1, 6):
                    for height in range(-1, 5):
                        places = [(x + k, y + j) for j in range(height) for k in range(width)]
                        if places and all(0 <= a < 4 and 0 <= b < 3 for a, b in places):
                            cells = tuple([cell_at(picture, a, b) for a, b in places])
                            self.assertEqual(cut_out(picture, x, y, width, height), (width, height, cells))
                        else:
                            self.assert_refused(NoCell, cut_out, picture, x, y, width, height)

    def test_what_is_cut_and_placed_again_is_what_was(self):
        picture = numbered(6, 5)
        for x in range(6):
            for y in range(5):
                for width in range(1, 7 - x):
                    for height in range(1, 6 - y):
                        cut = cut_out(picture, x, y, width, height)
                        self.assertTrue(is_picture(cut))
                        self.assertEqual(placed(picture, cut, x, y), picture)
                        hidden = placed(picture, plain_one(width, height, RED), x, y)
                        self.assertEqual(placed(hidden, cut, x, y), picture)


def placed_by_rule(picture, other, x, y, join):
    """Cell by cell: what stands where both are is told by join, else it is the picture's."""
    cells = []
    for b in range(picture[1]):
        for a in range(picture[0]):
            below = picture[2][b * picture[0] + a]
            meets = 0 <= a - x < other[0] and 0 <= b - y < other[1]
            cells.append(join(other[2][(b - y) * other[0] + a - x], below) if meets else below)
    return (picture[0], picture[1], tuple(cells))


class PlacedTest(unittest.TestCase):
    SMALL = (2, 2, (RED, GREEN, BLUE, CLEAR))

    def test_by_hand(self):
        self.assertEqual(placed(SIX, self.SMALL, 0, 0)[2], (RED, GREEN, C, BLUE, CLEAR, F))
        self.assertEqual(placed(SIX, self.SMALL, 1, 0)[2], (A, RED, GREEN, D, BLUE, CLEAR))
        self.assertEqual(placed(SIX, self.SMALL, 2, 1)[2], (A, B, C, D, E, RED))
        self.assertEqual(placed(SIX, self.SMALL, -1, -1)[2], (CLEAR, B, C, D, E, F))
        self.assertEqual(placed(SIX, self.SMALL, -1, 1)[2], (A, B, C, GREEN, E, F))

    def test_beside_all_is_left_out(self):
        for x, y in ((3, 0), (0, 2), (-2, 0), (0, -2), (FAR, 0), (0, FAR), (-FAR, 0), (0, -FAR), (-FAR, -FAR)):
            self.assertEqual(placed(SIX, self.SMALL, x, y), SIX)

    def test_greater_than_the_picture(self):
        self.assertEqual(placed(self.SMALL, SIX, 0, 0), (2, 2, (A, B, D, E)))
        self.assertEqual(placed(self.SMALL, SIX, -1, 0), (2, 2, (B, C, E, F)))

    def test_every_place(self):
        for picture, other in ((numbered(4, 3), numbered(2, 3, 500)), (numbered(2, 2), numbered(5, 1, 500))):
            for x in range(-6, 6):
                for y in range(-5, 5):
                    told = placed(picture, other, x, y)
                    self.assertEqual(told, placed_by_rule(picture, other, x, y, lambda top, bottom: top))
                    self.assertTrue(is_picture(told))

    def test_clear_cells_are_placed_too(self):
        self.assertEqual(placed(SIX, plain_one(3, 2, (5, 6, 7, 0)), 0, 0), plain_one(3, 2, (5, 6, 7, 0)))

    def test_nothing_is_changed(self):
        picture, other = numbered(3, 3), numbered(2, 2, 90)
        placed(picture, other, 1, 1)
        laid(picture, other, 1, 1)
        self.assertEqual((picture, other), (numbered(3, 3), numbered(2, 2, 90)))


class LaidTest(Refusing):
    OTHER = (2, 2, ((10, 200, 90, 128), (255, 0, 3, 255), (1, 2, 3, 0), (77, 77, 7, 1)))

    def test_mode_and_share_left_out(self):
        told = laid(MIXED, self.OTHER, 1, 0)
        self.assertEqual(told, laid(MIXED, self.OTHER, 1, 0, mode="plain", share=255))
        self.assertEqual(told, placed_by_rule(MIXED, self.OTHER, 1, 0, lambda top, low: blended(top, low, "plain")))

    def test_by_hand(self):
        black = plain_one(2, 1, (0, 0, 0, 255))
        white = plain_one(1, 1, WHITE)
        self.assertEqual(laid(black, white, 1, 0)[2], ((0, 0, 0, 255), WHITE))
        self.assertEqual(laid(black, white, 1, 0, share=51)[2], ((0, 0, 0, 255), (51, 51, 51, 255)))
        self.assertEqual(laid(black, white, 0, 0, mode="times")[2], ((0, 0, 0, 255), (0, 0, 0, 255)))
        self.assertEqual(laid(black, white, 0, 0, share=51, mode="apart")[2], ((51, 51, 51, 255), (0, 0, 0, 255)))

    def test_every_mode_share_and_place(self):
        for mode in MODES:
            for share in (0, 1, 127, 128, 200, 255):
                for x, y in ((0, 0), (1, 0), (1, 1), (2, 1), (3, 0), (0, 2), (-1, -1), (-1, 0), (-2, 0), (FAR, -FAR)):
                    told = laid(MIXED, self.OTHER, x, y, mode=mode, share=share)
                    by_rule = placed_by_rule(
                        MIXED, self.OTHER, x, y, lambda top, low: blended(faded(top, share), low, mode))
                    self.assertEqual(told, by_rule, (mode, share, x, y))
                    self.assertTrue(is_picture(told))

    def test_mode_and_share_are_handed_in_by_name_alone(self):
        with self.assertRaises(TypeError):
            laid(SIX, SIX, 0, 0, "plain")

    def test_what_covers_wholly_hides(self):
        self.assertEqual(laid(MIXED, SIX, 0, 0), SIX)
        self.assertEqual(laid(MIXED, plain_one(9, 9, RED), -3, -3), plain_one(3, 2, RED))

    def test_what_is_clear_changes_nothing_but_clear_cells(self):
        cells = tuple([cell if cell[3] else CLEAR for cell in MIXED[2]])
        for mode in MODES:
            self.assertEqual(laid(MIXED, plain_one(3, 2, (9, 9, 9, 0)), 0, 0, mode=mode), (3, 2, cells))
            self.assertEqual(laid(MIXED, plain_one(3, 2, RED), 0, 0, mode=mode, share=0), (3, 2, cells))

    def test_far_away_even_clear_cells_stay(self):
        self.assertEqual(laid(MIXED, SIX, 3, 0), MIXED)
        self.assertEqual(laid(MIXED, SIX, 0, -FAR), MIXED)

    def test_words_that_are_no_mode(self):
        for word in ("", "Plain", "plain ", "nomode", "lighter"):
            self.assert_refused(BadMode, laid, SIX, SIX, 0, 0, mode=word)
            self.assert_refused(BadMode, laid, SIX, SIX, 0, 0, mode=word, share=0)

    def test_refused_where_no_cell_meets_another(self):
        self.assert_refused(BadMode, laid, SIX, SIX, 3, 0, mode="nomode")
        self.assert_refused(BadMode, laid, SIX, SIX, FAR, FAR, mode="nomode")


class TurnedTest(unittest.TestCase):
    def test_by_hand(self):
        self.assertEqual(turned(SIX), (2, 3, (D, A, E, B, F, C)))
        self.assertEqual(rows_of(turned(turned(SIX))), [[F, E, D], [C, B, A]])

    def test_what_was_left_is_above(self):
        picture = numbered(4, 3)
        left = [row[0] for row in rows_of(picture)]
        self.assertEqual(sorted(rows_of(turned(picture))[0]), sorted(left))
        # A quarter round, not thrown over: what was above is to the right, from above down.
        self.assertEqual([row[-1] for row in rows_of(turned(picture))], rows_of(picture)[0])

    def test_mirrored_by_hand(self):
        self.assertEqual(mirrored(SIX), (3, 2, (C, B, A, F, E, D)))

    def test_they_come_back(self):
        for width, height in ((1, 1), (1, 5), (5, 1), (2, 2), (3, 4), (99, 2), (2, 99), (99, 99)):
            picture = numbered(width, height)
            self.assertEqual(mirrored(mirrored(picture)), picture)
            round_it = picture
            for k in range(4):
                round_it = turned(round_it)
                self.assertTrue(is_picture(round_it))
                if k < 3 and width * height > 1:
                    self.assertNotEqual(round_it, picture)
            self.assertEqual(round_it, picture)

    def test_turned_between_mirrorings_goes_the_other_way(self):
        picture = numbered(4, 3)
        self.assertEqual(turned(mirrored(turned(mirrored(picture)))), picture)

    def test_cells_are_kept_as_they_are(self):
        self.assertEqual(sorted(turned(MIXED)[2]), sorted(MIXED[2]))
        self.assertEqual(sorted(mirrored(MIXED)[2]), sorted(MIXED[2]))


class JoinedTest(Refusing):
    def test_beside_by_hand(self):
        self.assertEqual(beside(SIX, (1, 2, (RED, GREEN))), (4, 2, (A, B, C, RED, D, E, F, GREEN)))
        self.assertEqual(beside((1, 2, (RED, GREEN)), SIX), (4, 2, (RED, A, B, C, GREEN, D, E, F)))

    def test_stacked_by_hand(self):
        self.assertEqual(stacked(SIX, (3, 1, (RED, GREEN, BLUE))), (3, 3, (A, B, C, D, E, F, RED, GREEN, BLUE)))
        self.assertEqual(stacked((3, 1, (RED, GREEN, BLUE)), SIX), (3, 3, (RED, GREEN, BLUE, A, B, C, D, E, F)))

    def test_what_is_joined_is_cut_again(self):
        one, other = numbered(3, 4), numbered(2, 4, 300)
        both = beside(one, other)
        self.assertEqual((cut_out(both, 0, 0, 3, 4), cut_out(both, 3, 0, 2, 4)), (one, other))
        one, other = numbered(4, 3), numbered(4, 2, 300)
        both = stacked(one, other)
        self.assertEqual((cut_out(both, 0, 0, 4, 3), cut_out(both, 0, 3, 4, 2)), (one, other))

    def test_uneven(self):
        self.assert_refused(Uneven, beside, plain_one(2, 3, RED), plain_one(2, 2, RED))
        self.assert_refused(Uneven, beside, plain_one(2, 2, RED), plain_one(2, 3, RED))
        self.assert_refused(Uneven, stacked, plain_one(2, 3, RED), plain_one(3, 3, RED))
        self.assert_refused(Uneven, stacked, plain_one(3, 3, RED), plain_one(2, 3, RED))

    def test_the_other_side_may_be_uneven(self):
        self.assertEqual(beside(plain_one(1, 2, RED), plain_one(5, 2, RED)), plain_one(6, 2, RED))
        self.assertEqual(stacked(plain_one(2, 1, RED), plain_one(2, 5, RED)), plain_one(2, 6, RED))

    def test_at_99_and_100(self):
        for one, other in ((50, 49), (98, 1), (1, 98)):
            self.assertEqual(beside(plain_one(one, 2, RED), plain_one(other, 2, RED)), plain_one(99, 2, RED))
            self.assertEqual(stacked(plain_one(2, one, RED), plain_one(2, other, RED)), plain_one(2, 99, RED))
        for one, other in ((50, 50), (99, 1), (1, 99), (99, 99)):
            self.assert_refused(TooGreat, beside, plain_one(one, 2, RED), plain_one(other, 2, RED))
            self.assert_refused(TooGreat, stacked, plain_one(2, one, RED), plain_one(2, other, RED))

    def test_the_first_told_is_raised(self):
        self.assert_refused(Uneven, beside, plain_one(60, 3, RED), plain_one(60, 2, RED))
        self.assert_refused(Uneven, stacked, plain_one(3, 60, RED), plain_one(2, 60, RED))


class GrownTest(Refusing):
    def test_by_hand(self):
        self.assertEqual(grown(SIX, 1), SIX)
        self.assertEqual(rows_of(grown(SIX, 2)), [[A, A, B, B, C, C]] * 2 + [[D, D, E, E, F, F]] * 2)

    def test_up_to_99(self):
        self.assertEqual(grown(plain_one(33, 33, RED), 3), plain_one(99, 99, RED))
        self.assertEqual(grown(plain_one(1, 1, RED), 99), plain_one(99, 99, RED))
        self.assertEqual(grown(plain_one(49, 1, RED), 2), plain_one(98, 2, RED))
        self.assertEqual(grown(plain_one(99, 99, RED), 1), plain_one(99, 99, RED))

    def test_beyond_99(self):
        for width, height, by in ((50, 1, 2), (1, 50, 2), (25, 25, 4), (1, 1, 100), (99, 99, 2), (1, 34, 3),
                                  (1, 1, FAR)):
            self.assert_refused(TooGreat, grown, plain_one(width, height, RED), by)

    def test_each_cell_by_its_place(self):
        for by in (1, 2, 3, 5):
            told = grown(MIXED, by)
            self.assertTrue(is_picture(told))
            self.assertEqual(told[:2], (3 * by, 2 * by))
            for y in range(2 * by):
                for x in range(3 * by):
                    self.assertEqual(cell_at(told, x, y), cell_at(MIXED, x // by, y // by))


class ShrunkTest(Refusing):
    def test_by_hand(self):
        picture = (4, 2, ((0, 0, 0, 255), (2, 0, 0, 255), RED, CLEAR, (0, 4, 0, 255), (0, 0, 9, 255), CLEAR, CLEAR))
        self.assertEqual(shrunk(picture, 2), (2, 1, ((1, 1, 2, 255), (255, 0, 0, 64))))

    def test_by_one_clear_cells_are_cleared(self):
        self.assertEqual(shrunk(SIX, 1), SIX)
        self.assertEqual(shrunk(MIXED, 1), (3, 2, tuple([cell if cell[3] else CLEAR for cell in MIXED[2]])))

    def test_each_is_the_mean_of_its_cells(self):
        picture = (6, 6, tuple([(k * 7 % 256, k * 31 % 256, k, k * 13 % 256) for k in range(36)]))
        for by in (1, 2, 3, 6):
            told = shrunk(picture, by)
            self.assertTrue(is_picture(told))
            self.assertEqual(told[:2], (6 // by, 6 // by))
            for y in range(6 // by):
                for x in range(6 // by):
                    cells = cut_out(picture, x * by, y * by, by, by)[2]
                    self.assertEqual(cell_at(told, x, y), mean_colour(cells))

    def test_grown_comes_back(self):
        for by in (1, 2, 3, 16):
            self.assertEqual(shrunk(grown(SIX, by), by), SIX)

    def test_a_rest(self):
        for width, height, by in ((3, 2, 2), (2, 3, 2), (3, 3, 2), (4, 4, 3), (4, 4, 5), (1, 1, 2), (4, 2, 4),
                                  (2, 4, 4), (99, 99, 2), (99, 99, 100), (1, 1, FAR)):
            self.assert_refused(Uneven, shrunk, plain_one(width, height, RED), by)

    def test_by_nothing_all_is_a_rest(self):
        self.assert_refused(Uneven, shrunk, SIX, 0)

    def test_to_one_cell(self):
        self.assertEqual(shrunk(plain_one(99, 99, (1, 2, 3, 4)), 99), (1, 1, ((1, 2, 3, 4),)))
        self.assertEqual(shrunk(plain_one(5, 5, (1, 2, 3, 0)), 5), (1, 1, (CLEAR,)))


class SizedTest(unittest.TestCase):
    def test_by_hand(self):
        self.assertEqual(sized(SIX, 3, 2), SIX)
        self.assertEqual(rows_of(sized(SIX, 2, 1)), [[A, B]])
        self.assertEqual(rows_of(sized(SIX, 1, 1)), [[A]])
        self.assertEqual(rows_of(sized(SIX, 5, 3)), [[A, A, B, B, C], [A, A, B, B, C], [D, D, E, E, F]])
        self.assertEqual(rows_of(sized((5, 1, (A, B, C, D, E)), 3, 1)), [[A, B, D]])

    def test_up_and_down_by_rule(self):
        for old_width, old_height in ((1, 1), (4, 3), (7, 5), (1, 9), (99, 2), (50, 50)):
            picture = numbered(old_width, old_height)
            for width, height in ((1, 1), (2, 3), (4, 3), (13, 2), (99, 1), (1, 99), (99, 99), (49, 51)):
                told = sized(picture, width, height)
                self.assertTrue(is_picture(told))
                self.assertEqual(told[:2], (width, height))
                cells = tuple([cell_at(picture, x * old_width // width, y * old_height // height)
                               for y in range(height) for x in range(width)])
                self.assertEqual(told[2], cells)

    def test_a_whole_number_of_times_is_grown(self):
        self.assertEqual(sized(SIX, 9, 6), grown(SIX, 3))


class AgainTest(unittest.TestCase):
    """0.2 (a) and 0.3: each tells a picture, tells it again, and changes nothing."""

    def test_all(self):
        picture, other = MIXED, (2, 2, LaidTest.OTHER[2])
        shown = repr((picture, other))
        for ask in (
                lambda: with_cell(picture, 1, 1, RED), lambda: cut_out(picture, 1, 0, 2, 2),
                lambda: placed(picture, other, 2, 1), lambda: laid(picture, other, -1, 0, mode="screen", share=77),
                lambda: turned(picture), lambda: mirrored(picture), lambda: beside(picture, other),
                lambda: stacked(picture, picture), lambda: grown(picture, 3), lambda: shrunk(other, 2),
                lambda: sized(picture, 7, 7), lambda: plain_one(4, 4, RED)):
            told = ask()
            self.assertIs(is_picture(told), True)
            self.assertEqual(told, ask())
        self.assertEqual(repr((picture, other)), shown)


if __name__ == "__main__":
    unittest.main()
