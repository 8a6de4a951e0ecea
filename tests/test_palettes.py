"""Promises 3.1 and 3.2 of few colours, and 0.2 (a) and (e) as far as they speak of them."""

import itertools
import unittest

from helping import BLUE, CLEAR, GREEN, RED, WHITE, Refusing, half_up, numbered, scattered_picture
from paintyard.colours import distance
from paintyard.errors import Uneven
from paintyard.palettes import colours_of, faults, in_few, nearest, palette_for
from paintyard.pictures import is_picture, plain_one


def reds(*told):
    """A picture, one cell high, of (red, many)."""
    return counted(*[((red, 0, 0, 255), many) for red, many in told])


def counted(*told):
    """A picture, one cell high, of (colour, many)."""
    cells = [colour for colour, many in told for k in range(many)]
    return (len(cells), 1, tuple(cells))


def only_reds(palette):
    """The reds of a palette of which all else is as reds has it."""
    assert all(colour[1:] == (0, 0, 255) for colour in palette), palette
    return [colour[0] for colour in palette]


def told_boxes(picture, many):
    """The boxes of 3.2, each a list of its cells, reckoned anew from the words at each cut."""
    boxes = [sorted(picture[2])]

    def spread(box, at):
        return max(cell[at] for cell in box) - min(cell[at] for cell in box)

    while len(boxes) < many and any(len(set(box)) >= 2 for box in boxes):
        greatest = max(spread(box, at) for box in boxes for at in range(4))
        place = [max(spread(box, at) for at in range(4)) for box in boxes].index(greatest)
        box = boxes[place]
        at = [spread(box, part) for part in range(4)].index(greatest)
        colours = sorted(set(box), key=lambda colour: (colour[at], colour))
        sizes = range(1, len(colours) + 1)
        first = [size for size in sizes if 2 * sum(box.count(colour) for colour in colours[:size]) >= len(box)][0]
        ahead = colours[:min(first, len(colours) - 1)]
        boxes = (
            boxes[:place] + [[cell for cell in box if cell in ahead], [cell for cell in box if cell not in ahead]]
            + boxes[place + 1:])
    return boxes


def told_middle(box):
    """The middle of a box of cells."""
    return tuple(half_up(sum(cell[at] for cell in box), len(box)) for at in range(4))


class ColoursOfTest(unittest.TestCase):
    def test_counted_and_rising(self):
        picture = (3, 2, (WHITE, RED, BLUE, RED, CLEAR, RED))
        self.assertEqual(colours_of(picture), ((CLEAR, 1), (BLUE, 1), (RED, 3), (WHITE, 1)))

    def test_rising_by_each_part(self):
        rising = ((0, 0, 0, 0), (0, 0, 0, 9), (0, 0, 1, 0), (0, 2, 0, 0), (0, 10, 0, 0), (3, 0, 0, 0), (20, 0, 0, 0))
        for cells in (rising, rising[::-1], rising[3:] + rising[:3]):
            self.assertEqual(colours_of((7, 1, cells)), tuple((colour, 1) for colour in rising))

    def test_clear_colours_with_unlike_parts_are_unlike(self):
        self.assertEqual(colours_of((2, 1, ((9, 0, 0, 0), CLEAR))), ((CLEAR, 1), ((9, 0, 0, 0), 1)))

    def test_of_one_colour(self):
        self.assertEqual(colours_of(plain_one(1, 1, RED)), ((RED, 1),))
        self.assertEqual(colours_of(plain_one(99, 99, RED)), ((RED, 9801),))

    def test_of_as_many_as_cells(self):
        told = colours_of(numbered(99, 99))
        self.assertEqual(len(told), 9801)
        self.assertEqual({many for colour, many in told}, {1})


class NearestTest(unittest.TestCase):
    def test_the_one_with_the_least_distance(self):
        self.assertEqual(nearest((RED, GREEN, BLUE), (9, 200, 8, 255)), 1)
        self.assertEqual(nearest((RED, GREEN, BLUE), (9, 8, 200, 255)), 2)
        self.assertEqual(nearest((RED, GREEN, BLUE), (200, 8, 9, 255)), 0)

    def test_one_colour_alone(self):
        self.assertEqual(nearest((RED,), BLUE), 0)

    def test_the_same_colour_twice(self):
        self.assertEqual(nearest((RED, GREEN, GREEN, RED), GREEN), 1)
        self.assertEqual(nearest((RED, GREEN, GREEN, RED), RED), 0)

    def test_several_as_near(self):
        palette = ((200, 0, 0, 0), (12, 0, 0, 0), (8, 0, 0, 0), (10, 2, 0, 0))
        self.assertEqual(nearest(palette, (10, 0, 0, 0)), 1)
        self.assertEqual(nearest(palette[::-1], (10, 0, 0, 0)), 0)

    def test_the_cover_counts_like_the_other_parts(self):
        self.assertEqual(nearest(((5, 5, 5, 255), (9, 9, 9, 0)), (5, 5, 5, 0)), 1)

    def test_nearer_by_just_one(self):
        self.assertEqual(nearest(((0, 0, 0, 3), (0, 2, 2, 0)), CLEAR), 1)

    def test_a_palette_of_none_is_not_refused(self):
        nearest((), RED)


class InFewTest(unittest.TestCase):
    PALETTE = ((0, 0, 0, 255), (255, 255, 255, 255), (200, 10, 10, 128), CLEAR)

    def test_each_cell_is_the_nearest(self):
        picture = (2, 3, ((9, 9, 9, 255), (200, 250, 255, 250), (180, 0, 0, 130), (9, 9, 9, 9), CLEAR, (9, 9, 9, 255)))
        black, white, red, clear = self.PALETTE
        self.assertEqual(in_few(picture, self.PALETTE), (2, 3, (black, white, red, clear, clear, black)))

    def test_again_leaves_it_as_it_is(self):
        for seed in range(5):
            few = in_few(scattered_picture(seed, 7, 5), self.PALETTE)
            self.assertTrue(is_picture(few))
            self.assertEqual(in_few(few, self.PALETTE), few)

    def test_the_first_of_several_as_near(self):
        self.assertEqual(in_few(reds((5, 1)), ((6, 0, 0, 255), (4, 0, 0, 255)))[2], ((6, 0, 0, 255),))
        self.assertEqual(in_few(reds((5, 1)), ((4, 0, 0, 255), (6, 0, 0, 255)))[2], ((4, 0, 0, 255),))

    def test_never_farther_than_any_other_picture_of_these_colours(self):
        for seed in range(5):
            picture = scattered_picture(seed, 2, 2)
            least = faults(picture, in_few(picture, self.PALETTE))
            for cells in itertools.product(self.PALETTE, repeat=4):
                self.assertLessEqual(least, faults(picture, (2, 2, cells)))

    def test_faults_are_the_distances_to_the_nearest(self):
        picture = scattered_picture(3, 6, 4)
        told = sum(min(distance(cell, colour) for colour in self.PALETTE) for cell in picture[2])
        self.assertEqual(faults(picture, in_few(picture, self.PALETTE)), told)

    def test_a_palette_of_none_is_not_refused(self):
        self.assertTrue(is_picture(in_few((2, 1, (RED, BLUE)), ())))


class FaultsTest(Refusing):
    def test_all_distances_together(self):
        one = (2, 2, ((0, 0, 0, 0), (1, 2, 3, 4), (9, 9, 9, 9), RED))
        other = (2, 2, ((1, 2, 3, 4), (0, 0, 0, 0), (9, 9, 9, 9), (255, 0, 0, 250)))
        self.assertEqual(faults(one, other), 30 + 30 + 0 + 25)
        self.assertEqual(faults(other, one), 85)

    def test_none_and_most(self):
        self.assertEqual(faults(plain_one(99, 99, RED), plain_one(99, 99, RED)), 0)
        self.assertEqual(faults(plain_one(99, 99, CLEAR), plain_one(99, 99, WHITE)), 9801 * 4 * 65025)

    def test_not_as_great(self):
        one = plain_one(2, 3, RED)
        for width, height in ((3, 2), (2, 2), (2, 4), (1, 3), (3, 3), (6, 1), (1, 6), (99, 99)):
            self.assert_refused(Uneven, faults, one, plain_one(width, height, RED))
            self.assert_refused(Uneven, faults, plain_one(width, height, RED), one)


class PaletteForTest(unittest.TestCase):
    def test_of_one_the_mean_over_all_cells(self):
        picture = counted(((0, 10, 1, 255), 1), ((3, 20, 0, 0), 3))
        self.assertEqual(palette_for(picture, 1), ((2, 18, 0, 64),))

    def test_halves_are_rounded_up(self):
        self.assertEqual(palette_for(counted(((0, 1, 2, 3), 1), ((1, 2, 3, 4), 1)), 1), ((1, 2, 3, 4),))
        self.assertEqual(palette_for(counted(((0, 0, 0, 0), 3), ((1, 2, 3, 5), 2)), 1), ((0, 1, 1, 2),))

    def test_clear_cells_count_with_all_their_parts(self):
        self.assertEqual(palette_for(counted(((100, 0, 50, 0), 1), ((0, 0, 0, 200), 1)), 1), ((50, 0, 25, 100),))

    def test_as_many_as_there_are_and_more(self):
        for seed in range(4):
            picture = scattered_picture(seed, 3, 3)
            colours = tuple(sorted(set(picture[2])))
            for many in (len(colours), len(colours) + 1, 1000):
                self.assertEqual(palette_for(picture, many), colours)

    def test_of_a_plain_picture(self):
        for many in (1, 2, 9):
            self.assertEqual(palette_for(plain_one(5, 4, RED), many), (RED,))

    def test_rising(self):
        self.assertEqual(palette_for((3, 1, (WHITE, CLEAR, RED)), 3), (CLEAR, RED, WHITE))

    def test_half_of_the_cells_met_exactly(self):
        self.assertEqual(only_reds(palette_for(reds((0, 1), (10, 1), (30, 1), (40, 1)), 2)), [5, 35])
        self.assertEqual(only_reds(palette_for(reds((0, 1), (10, 1), (40, 2)), 2)), [5, 40])
        self.assertEqual(only_reds(palette_for(reds((0, 2), (30, 1), (40, 1)), 2)), [0, 35])

    def test_half_of_the_cells_passed(self):
        self.assertEqual(only_reds(palette_for(reds((0, 1), (30, 2), (40, 1)), 2)), [20, 40])
        self.assertEqual(only_reds(palette_for(reds((0, 1), (10, 1), (40, 1)), 2)), [5, 40])
        self.assertEqual(only_reds(palette_for(reds((0, 9), (10, 1), (40, 1)), 2)), [0, 25])

    def test_a_cut_never_takes_all(self):
        self.assertEqual(only_reds(palette_for(reds((0, 1), (40, 3)), 2)), [0, 40])
        self.assertEqual(only_reds(palette_for(reds((0, 1), (10, 1), (40, 5)), 2)), [5, 40])

    def test_the_box_with_the_greatest_spread_is_cut(self):
        self.assertEqual(only_reds(palette_for(reds((0, 1), (10, 1), (100, 1), (111, 1)), 3)), [5, 100, 111])
        self.assertEqual(only_reds(palette_for(reds((0, 1), (11, 1), (100, 1), (110, 1)), 3)), [0, 11, 105])

    def test_a_box_of_few_cells_is_cut_if_its_spread_is_greatest(self):
        self.assertEqual(only_reds(palette_for(reds((0, 40), (10, 20), (200, 1), (250, 1)), 3)), [0, 10, 225])
        self.assertEqual(only_reds(palette_for(reds((0, 20), (10, 10), (200, 20), (250, 9)), 3)), [3, 200, 250])

    def test_of_the_same_spread_the_first_is_cut(self):
        self.assertEqual(only_reds(palette_for(reds((0, 1), (10, 1), (100, 1), (110, 1)), 3)), [0, 10, 105])

    def test_both_boxes_stand_in_the_place_of_the_one(self):
        picture = reds((0, 2), (50, 1), (60, 1), (200, 2), (210, 2))
        self.assertEqual(only_reds(palette_for(picture, 2)), [28, 205])
        self.assertEqual(only_reds(palette_for(picture, 3)), [0, 55, 205])
        self.assertEqual(only_reds(palette_for(picture, 4)), [0, 50, 60, 205])

    def test_each_part_can_be_the_one_with_the_spread(self):
        for at in range(4):
            def at_part(worth):
                return tuple([worth if part == at else 10 + worth % 7 for part in range(4)])
            picture = counted((at_part(80), 1), (at_part(10), 1), (at_part(20), 1), (at_part(95), 1))
            self.assertEqual(sorted([colour[at] for colour in palette_for(picture, 2)]), [15, 88])

    def test_of_several_parts_the_first_is_cut_by(self):
        for one, other in itertools.combinations(range(4), 2):
            def colour(first, second):
                told = [7, 7, 7, 7]
                told[one], told[other] = first, second
                return tuple(told)
            picture = counted((colour(0, 10), 1), (colour(4, 0), 1), (colour(10, 4), 1))
            self.assertEqual(palette_for(picture, 2), (colour(2, 5), colour(10, 4)))

    def test_colours_alike_in_that_part_stand_by_order(self):
        # The first cut is by blue, and leaves them otherwise than by order.
        picture = counted(
            ((0, 0, 50, 255), 2), ((0, 9, 40, 255), 1), ((30, 0, 45, 255), 1),
            ((0, 0, 200, 255), 2), ((0, 0, 210, 255), 2))
        self.assertEqual(palette_for(picture, 2), ((0, 0, 205, 255), (8, 2, 46, 255)))
        self.assertEqual(palette_for(picture, 3), ((0, 0, 50, 255), (0, 0, 205, 255), (15, 5, 43, 255)))

    def test_middles_that_are_alike_are_told_once(self):
        picture = counted(((0, 1, 5, 5), 1), ((1, 0, 5, 5), 1), ((1, 1, 5, 5), 2))
        self.assertEqual(palette_for(picture, 2), ((1, 1, 5, 5),))
        self.assertEqual(palette_for(picture, 3), ((0, 1, 5, 5), (1, 0, 5, 5), (1, 1, 5, 5)))

    def test_as_the_words_tell_it(self):
        for seed, below in ((1, 2), (2, 3), (3, 4), (4, 8), (5, 30), (6, 256), (7, 256)):
            picture = scattered_picture(seed, 6, 5, below)
            for many in (1, 2, 3, 4, 5, 7, 11, 20, 29, 31):
                boxes = told_boxes(picture, many)
                self.assertEqual(palette_for(picture, many), tuple(sorted({told_middle(box) for box in boxes})))

    def test_each_part_lies_within_its_box(self):
        picture = scattered_picture(8, 6, 5, 40)
        for many in (1, 2, 5, 9):
            told = palette_for(picture, many)
            boxes = told_boxes(picture, many)
            within = [
                all(min(cell[at] for cell in box) <= colour[at] <= max(cell[at] for cell in box) for at in range(4))
                for colour in told for box in boxes if told_middle(box) == colour]
            self.assertGreaterEqual(len(within), len(told))
            self.assertTrue(all(within))

    def test_many_below_1_is_not_refused(self):
        palette_for(reds((0, 1), (9, 1)), 0)


if __name__ == "__main__":
    unittest.main()
