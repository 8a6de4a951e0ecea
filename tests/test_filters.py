"""Promises 4.1 to 4.3 of filters, and 0.2 (a) as far as it speaks of them."""

import unittest
from fractions import Fraction

from helping import (
    BLUE, CLEAR, GREEN, RED, WHITE, Refusing, beside_edge, half_up, numbered, rows_of, scattered, scattered_picture)
from paintyard.colours import grey
from paintyard.errors import BadEdge, NoCell
from paintyard.filters import areas, convolved, curved, evened, flooded, middled
from paintyard.pictures import cell_at, is_picture, plain_one, with_cell

EDGES = ("near", "round", "clear")
WRONG_EDGES = ("", "Near", "near ", " round", "far", "edge", "n", "clea", "wrap", "plain")
A, B, C, D, E, F = [(k, k + 10, k + 20, k + 200) for k in range(1, 7)]
Z = CLEAR
SIX = (3, 2, (A, B, C, D, E, F))


def one_of(width, height, x, y):
    """A kernel that takes the one cell at its place x and y."""
    return (width, height, tuple([1 if (at % width, at // width) == (x, y) else 0 for at in range(width * height)]))


def told_convolved(picture, kernel, by, edge):
    """4.1 told anew, cell by cell."""
    width, height, numbers = kernel
    cells = []
    for at in range(picture[0] * picture[1]):
        y, x = divmod(at, picture[0])
        sums = [Fraction(0)] * 4
        for place, number in enumerate(numbers):
            j, i = divmod(place, width)
            cell = beside_edge(picture, x + i - (width - 1) // 2, y + j - (height - 1) // 2, edge)
            sums = [total + number * part for total, part in zip(sums, cell)]
        cells.append(tuple([max(0, min(255, half_up(total, by))) for total in sums]))
    return (picture[0], picture[1], tuple(cells))


def told_middled(picture, reach, edge):
    """The middle of 4.1 told anew: as many stand ahead of it as behind it."""
    cells = []
    for at in range(picture[0] * picture[1]):
        y, x = divmod(at, picture[0])
        around = [
            beside_edge(picture, x + i, y + j, edge)
            for i in range(-reach, reach + 1) for j in range(-reach, reach + 1)]
        cells.append(tuple([sorted(cell[k] for cell in around)[2 * reach * (reach + 1)] for k in range(4)]))
    return (picture[0], picture[1], tuple(cells))


class EdgeTest(Refusing):
    """What stands beside a picture, told by kernels that take one cell."""

    def assert_taken(self, x, y, edge, *rows):
        self.assertEqual(rows_of(convolved(SIX, one_of(3, 3, x, y), 1, edge)), [list(row) for row in rows])

    def test_the_middle_one_stands_at_the_cell(self):
        for edge in EDGES:
            for width in (1, 3, 5):
                for height in (1, 3, 5):
                    kernel = one_of(width, height, width // 2, height // 2)
                    self.assertEqual(convolved(SIX, kernel, 1, edge), SIX)

    def test_near_at_the_sides(self):
        self.assert_taken(0, 1, "near", (A, A, B), (D, D, E))
        self.assert_taken(2, 1, "near", (B, C, C), (E, F, F))
        self.assert_taken(1, 0, "near", (A, B, C), (A, B, C))
        self.assert_taken(1, 2, "near", (D, E, F), (D, E, F))

    def test_near_at_the_corners(self):
        self.assert_taken(0, 0, "near", (A, A, B), (A, A, B))
        self.assert_taken(2, 0, "near", (B, C, C), (B, C, C))
        self.assert_taken(0, 2, "near", (D, D, E), (D, D, E))
        self.assert_taken(2, 2, "near", (E, F, F), (E, F, F))

    def test_round_at_the_sides(self):
        self.assert_taken(0, 1, "round", (C, A, B), (F, D, E))
        self.assert_taken(2, 1, "round", (B, C, A), (E, F, D))
        self.assert_taken(1, 0, "round", (D, E, F), (A, B, C))
        self.assert_taken(1, 2, "round", (D, E, F), (A, B, C))

    def test_round_at_the_corners(self):
        self.assert_taken(0, 0, "round", (F, D, E), (C, A, B))
        self.assert_taken(2, 0, "round", (E, F, D), (B, C, A))
        self.assert_taken(0, 2, "round", (F, D, E), (C, A, B))
        self.assert_taken(2, 2, "round", (E, F, D), (B, C, A))

    def test_clear_at_the_sides(self):
        self.assert_taken(0, 1, "clear", (Z, A, B), (Z, D, E))
        self.assert_taken(2, 1, "clear", (B, C, Z), (E, F, Z))
        self.assert_taken(1, 0, "clear", (Z, Z, Z), (A, B, C))
        self.assert_taken(1, 2, "clear", (D, E, F), (Z, Z, Z))

    def test_clear_at_the_corners(self):
        self.assert_taken(0, 0, "clear", (Z, Z, Z), (Z, A, B))
        self.assert_taken(2, 0, "clear", (Z, Z, Z), (B, C, Z))
        self.assert_taken(0, 2, "clear", (Z, D, E), (Z, Z, Z))
        self.assert_taken(2, 2, "clear", (E, F, Z), (Z, Z, Z))

    def test_two_cells_beside(self):
        for edge, left, right in (
                ("near", (A, A, A), (C, C, C)), ("round", (B, C, A), (C, A, B)), ("clear", (Z, Z, A), (C, Z, Z))):
            self.assertEqual(convolved(SIX, one_of(5, 1, 0, 0), 1, edge)[2][:3], left)
            self.assertEqual(convolved(SIX, one_of(5, 1, 4, 0), 1, edge)[2][:3], right)
        for edge, above, below in (
                ("near", (A, A), (D, D)), ("round", (A, D), (A, D)), ("clear", (Z, Z), (Z, Z))):
            self.assertEqual(convolved(SIX, one_of(1, 5, 0, 0), 1, edge)[2][::3], above)
            self.assertEqual(convolved(SIX, one_of(1, 5, 0, 4), 1, edge)[2][::3], below)

    def test_a_word_that_is_no_edge(self):
        for edge in WRONG_EDGES:
            self.assert_refused(BadEdge, convolved, SIX, one_of(3, 3, 1, 1), 1, edge)
            self.assert_refused(BadEdge, convolved, SIX, (1, 1, (1,)), 1, edge)
            self.assert_refused(BadEdge, middled, SIX, 1, edge)
            self.assert_refused(BadEdge, middled, plain_one(1, 1, RED), 2, edge)


class ConvolvedTest(unittest.TestCase):
    def parts(self, told, number, by):
        """What a kernel of one number makes of some parts."""
        return [cell[0] for cell in convolved((len(told), 1, tuple([(k,) * 4 for k in told])), (1, 1, (number,)), by,
                                              "near")[2]]

    def test_one_by_one(self):
        picture = (2, 1, ((1, 2, 3, 4), (100, 85, 86, 255)))
        self.assertEqual(convolved(picture, (1, 1, (3,)), 1, "near"), (2, 1, ((3, 6, 9, 12), (255, 255, 255, 255))))

    def test_numbers_stand_row_by_row(self):
        picture = with_cell(plain_one(7, 5, CLEAR), 3, 2, (1, 1, 1, 1))
        for width, height in ((1, 5), (5, 1), (5, 3), (3, 5), (3, 3), (5, 5), (1, 3), (3, 1)):
            kernel = (width, height, tuple(range(1, width * height + 1)))
            told = convolved(picture, kernel, 1, "clear")
            for at, cell in enumerate(told[2]):
                i, j = 3 - at % 7 + width // 2, 2 - at // 7 + height // 2
                inside = 0 <= i < width and 0 <= j < height
                self.assertEqual(cell, (j * width + i + 1,) * 4 if inside else CLEAR)

    def test_all_parts_alike_the_cover_too(self):
        told = convolved((3, 1, ((10, 0, 0, 0), (0, 20, 0, 0), (0, 0, 30, 40))), (3, 1, (1, 2, 3)), 1, "clear")
        self.assertEqual(told[2], ((20, 60, 0, 0), (10, 40, 90, 120), (0, 20, 60, 80)))

    def test_halves_are_rounded_up(self):
        self.assertEqual(self.parts((0, 1, 2, 3, 4, 5), 1, 2), [0, 1, 1, 2, 2, 3])
        self.assertEqual(self.parts((1, 2, 3, 4, 5), 1, 3), [0, 1, 1, 1, 2])
        self.assertEqual(self.parts((1, 2, 3, 5, 6, 7), 1, 4), [0, 1, 1, 1, 2, 2])

    def test_sums_below_0(self):
        self.assertEqual(self.parts((0, 1, 2, 3, 255), -1, 1), [0] * 5)
        self.assertEqual(self.parts((0, 1, 2, 3, 255), -1, 2), [0] * 5)
        self.assertEqual(self.parts((0, 1, 2, 3, 255), -1, 1000), [0] * 5)

    def test_sums_at_and_above_255(self):
        self.assertEqual(self.parts((84, 85, 86, 255), 3, 1), [252, 255, 255, 255])
        self.assertEqual(self.parts((253, 254, 255), 511, 510), [253, 254, 255])
        self.assertEqual(self.parts((255,), 509, 510), [255])
        self.assertEqual(self.parts((255,), 508, 510), [254])
        self.assertEqual(self.parts((255,), 10 ** 20, 1), [255])

    def test_numbers_above_and_below_0_meet(self):
        self.assertEqual(
            [cell[0] for cell in convolved((4, 1, ((10,) * 4, (50,) * 4, (51,) * 4, (0,) * 4)), (3, 1, (-1, 3, -1)), 2,
                                           "near")[2]],
            [0, 45, 52, 0])

    def test_a_mean_of_nine(self):
        picture = (3, 3, tuple([(k, 9, 0, 255) for k in (0, 1, 2, 3, 4, 5, 6, 7, 9)]))
        for edge, corner in (("near", 12), ("round", 37), ("clear", 8)):
            told = convolved(picture, (3, 3, (1,) * 9), 9, edge)
            self.assertEqual(cell_at(told, 1, 1), (4, 9, 0, 255))
            self.assertEqual(cell_at(told, 0, 0)[0], half_up(corner, 9))

    def test_pictures_smaller_than_the_kernel(self):
        kernel = (5, 5, tuple(range(1, 26)))
        one = plain_one(1, 1, (1, 1, 1, 1))
        self.assertEqual(convolved(one, kernel, 5, "near")[2], ((65,) * 4,))
        self.assertEqual(convolved(one, kernel, 5, "round")[2], ((65,) * 4,))
        self.assertEqual(convolved(one, kernel, 1, "clear")[2], ((13,) * 4,))
        two = (2, 1, ((1,) * 4, (2,) * 4))
        five = (5, 1, (1, 2, 4, 8, 16))
        self.assertEqual([cell[0] for cell in convolved(two, five, 1, "near")[2]], [7 + 48, 3 + 56])
        self.assertEqual([cell[0] for cell in convolved(two, five, 1, "round")[2]], [21 + 20, 10 + 42])
        self.assertEqual([cell[0] for cell in convolved(two, five, 1, "clear")[2]], [4 + 16, 2 + 8])

    def test_as_the_words_tell_it(self):
        for seed, (width, height) in enumerate(((1, 1), (1, 4), (2, 2), (4, 3), (5, 6))):
            picture = scattered_picture(seed, width, height)
            for wide, high in ((1, 1), (1, 5), (5, 3), (3, 3), (5, 5), (3, 1)):
                kernel = (wide, high, tuple([k - 7 for k in scattered(seed + 9, wide * high, 20)]))
                for by in (1, 2, 6, 25):
                    for edge in EDGES:
                        told = convolved(picture, kernel, by, edge)
                        self.assertEqual(told, told_convolved(picture, kernel, by, edge))
                        self.assertTrue(is_picture(told))

    def test_beyond_the_limits_nothing_is_refused(self):
        for by in (0, -1):
            convolved(SIX, (3, 3, (1,) * 9), by, "near")
        for side in (2, 7):
            self.assertEqual(convolved(SIX, (side, side, (0,) * side * side), 1, "near"), plain_one(3, 2, CLEAR))


class MiddledTest(unittest.TestCase):
    def test_a_lone_cell_is_lost(self):
        picture = with_cell(plain_one(5, 5, RED), 2, 2, BLUE)
        for reach in (1, 2):
            self.assertEqual(middled(picture, reach, "near"), plain_one(5, 5, RED))

    def test_each_part_for_itself(self):
        picture = (3, 1, ((0, 9, 5, 100), (5, 0, 9, 200), (9, 5, 0, 150)))
        self.assertEqual(middled(picture, 1, "near")[2], ((0, 9, 5, 100), (5, 5, 5, 150), (9, 5, 0, 150)))

    def test_reach_1_at_each_edge(self):
        picture = (3, 3, tuple([(k, k, k, k) for k in range(1, 10)]))
        self.assertEqual([cell[0] for cell in middled(picture, 1, "near")[2]], [2, 3, 3, 4, 5, 6, 7, 7, 8])
        self.assertEqual([cell[0] for cell in middled(picture, 1, "round")[2]], [5] * 9)
        self.assertEqual([cell[0] for cell in middled(picture, 1, "clear")[2]], [0, 2, 0, 2, 5, 3, 0, 5, 0])

    def test_reach_2_at_each_edge(self):
        row = (5, 1, tuple([(k, k, k, k) for k in (10, 20, 30, 40, 50)]))
        self.assertEqual([cell[0] for cell in middled(row, 2, "near")[2]], [10, 20, 30, 40, 50])
        self.assertEqual([cell[0] for cell in middled(row, 2, "round")[2]], [30] * 5)
        self.assertEqual(middled(row, 2, "clear"), plain_one(5, 1, CLEAR))
        self.assertEqual(middled(plain_one(3, 5, RED), 2, "clear")[2][6:9], (RED,) * 3)
        self.assertEqual(middled(plain_one(4, 4, RED), 2, "clear")[2][:2], (CLEAR, CLEAR))

    def test_pictures_smaller_than_the_reach(self):
        one = plain_one(1, 1, RED)
        for reach in (1, 2):
            self.assertEqual([middled(one, reach, edge)[2][0] for edge in EDGES], [RED, RED, CLEAR])

    def test_as_the_words_tell_it(self):
        for seed, (width, height) in enumerate(((1, 1), (1, 4), (2, 2), (4, 3), (6, 5))):
            for below in (3, 256):
                picture = scattered_picture(seed, width, height, below)
                for reach in (1, 2):
                    for edge in EDGES:
                        told = middled(picture, reach, edge)
                        self.assertEqual(told, told_middled(picture, reach, edge))
                        self.assertTrue(is_picture(told))

    def test_beyond_the_limits_nothing_is_refused(self):
        for reach in (-1, 0):
            self.assertEqual(middled(SIX, reach, "near"), SIX)
        self.assertEqual(middled(SIX, 3, "round"), told_middled(SIX, 3, "round"))


class CurvedTest(unittest.TestCase):
    def test_each_part_is_the_one_at_its_place(self):
        curve = tuple([(k * 7 + 3) % 256 for k in range(256)])
        self.assertEqual(curved((2, 1, ((0, 1, 2, 3), (255, 100, 50, 0))), curve)[2],
                         ((3, 10, 17, 3), (252, 191, 97, 0)))

    def test_the_cover_is_left(self):
        picture = (4, 1, ((9, 9, 9, 0), (9, 9, 9, 1), (9, 9, 9, 128), (9, 9, 9, 255)))
        told = curved(picture, (77,) * 256)
        self.assertEqual(told[2], ((77, 77, 77, 0), (77, 77, 77, 1), (77, 77, 77, 128), (77, 77, 77, 255)))

    def test_to_itself_and_there_and_back(self):
        picture = scattered_picture(4, 6, 7)
        self.assertEqual(curved(picture, tuple(range(256))), picture)
        back = tuple(range(255, -1, -1))
        self.assertNotEqual(curved(picture, back), picture)
        self.assertEqual(curved(curved(picture, back), back), picture)
        self.assertTrue(is_picture(curved(picture, back)))


class EvenedTest(unittest.TestCase):
    def of_greys(self, *greys):
        return evened((len(greys), 1, tuple([(k, k, k, 255) for k in greys])))

    def test_of_one_grey_each_is_itself(self):
        for light in (0, 7, 255):
            self.assertEqual(self.of_greys(light), tuple(range(256)))
            self.assertEqual(self.of_greys(light, light, light), tuple(range(256)))

    def test_unlike_colours_of_one_grey(self):
        cells = ((100, 100, 100, 255), (100, 100, 100, 0), (103, 98, 101, 9))
        self.assertEqual({grey(cell)[0] for cell in cells}, {100})
        self.assertEqual(evened((3, 1, cells)), tuple(range(256)))

    def test_of_two_greys(self):
        self.assertEqual(self.of_greys(10, 20), (0,) * 20 + (255,) * 236)
        self.assertEqual(self.of_greys(20, 10, 10, 10, 20), (0,) * 20 + (255,) * 236)

    def test_of_several_greys(self):
        self.assertEqual(
            self.of_greys(3, 5, 5, 9, 200), (0,) * 5 + (half_up(255 * 2, 4),) * 4 + (191,) * 191 + (255,) * 56)
        self.assertEqual(self.of_greys(0, 1, 254, 255), (0, *(85,) * 253, 170, 255))
        self.assertEqual(self.of_greys(0, 0, 0, 1, 255), (0, *(128,) * 254, 255))

    def test_counted_by_all_cells_whatever_their_cover(self):
        cells = ((0, 0, 0, 0), (10, 10, 10, 0), (20, 20, 20, 255), (10, 10, 10, 7))
        self.assertEqual(evened((2, 2, cells)), (0,) * 10 + (170,) * 10 + (255,) * 236)

    def test_greys_are_those_of_colours(self):
        lights = [grey(colour)[0] for colour in (BLUE, RED, GREEN)]
        self.assertEqual(evened((3, 1, (RED, GREEN, BLUE))),
                         (0,) * lights[1] + (128,) * (lights[2] - lights[1]) + (255,) * (256 - lights[2]))

    def test_as_the_words_tell_it(self):
        for seed, below in ((1, 3), (2, 20), (3, 256)):
            picture = scattered_picture(seed, 9, 8, below)
            greys = [grey(cell)[0] for cell in picture[2]]
            least = greys.count(min(greys))
            told = [
                half_up(255 * max(0, sum(light <= part for light in greys) - least), len(greys) - least)
                for part in range(256)]
            self.assertEqual(evened(picture), tuple(told))
            self.assertTrue(is_picture(curved(picture, evened(picture))))


class FloodedTest(Refusing):
    ROWS = (
        "aabb",
        "baab",
        "bbaa",
        "abba")
    COLOURS = {"a": RED, "b": BLUE, "c": GREEN, "d": (255, 0, 0, 254)}

    def picture(self, *rows):
        return (len(rows[0]), len(rows), tuple([self.COLOURS[sign] for row in rows for sign in row]))

    def test_at_a_cell(self):
        picture = self.picture(*self.ROWS)
        self.assertEqual(flooded(picture, 0, 0, GREEN), self.picture("ccbb", "bccb", "bbcc", "abbc"))
        self.assertEqual(flooded(picture, 3, 3, GREEN), self.picture("ccbb", "bccb", "bbcc", "abbc"))
        self.assertEqual(flooded(picture, 3, 0, GREEN), self.picture("aacc", "baac", "bbaa", "abba"))
        self.assertEqual(flooded(picture, 0, 2, GREEN), self.picture("aabb", "caab", "ccaa", "acca"))
        self.assertEqual(flooded(picture, 0, 3, GREEN), self.picture("aabb", "baab", "bbaa", "cbba"))

    def test_corner_by_corner_does_not_hang_together(self):
        picture = self.picture("aba", "bab", "aba")
        self.assertEqual(flooded(picture, 1, 1, GREEN), self.picture("aba", "bcb", "aba"))

    def test_rows_do_not_go_on_in_one_another(self):
        picture = self.picture("bba", "abb")
        self.assertEqual(flooded(picture, 2, 0, GREEN), self.picture("bbc", "abb"))
        self.assertEqual(flooded(picture, 0, 1, GREEN), self.picture("bba", "cbb"))

    def test_round_corners(self):
        picture = self.picture("aaaaa", "bbbba", "aaaba", "abbba", "aaaaa")
        self.assertEqual(flooded(picture, 2, 2, GREEN), self.picture("ccccc", "bbbbc", "cccbc", "cbbbc", "ccccc"))
        self.assertEqual(flooded(picture, 0, 1, GREEN), self.picture("aaaaa", "cccca", "aaaca", "accca", "aaaaa"))

    def test_in_its_own_colour(self):
        picture = self.picture(*self.ROWS)
        self.assertEqual(flooded(picture, 1, 1, RED), picture)

    def test_in_the_colour_beside_it(self):
        self.assertEqual(flooded(self.picture("abab"), 1, 0, RED), self.picture("aaab"))

    def test_just_the_very_colour(self):
        self.assertEqual(flooded(self.picture("adaad"), 0, 0, GREEN), self.picture("cdaad"))
        self.assertEqual(flooded((2, 1, (CLEAR, (1, 0, 0, 0))), 0, 0, RED), (2, 1, (RED, (1, 0, 0, 0))))

    def test_all_of_a_great_one(self):
        self.assertEqual(flooded(plain_one(99, 99, RED), 50, 50, BLUE), plain_one(99, 99, BLUE))
        self.assertEqual(flooded(plain_one(1, 1, RED), 0, 0, BLUE), plain_one(1, 1, BLUE))

    def test_beside_the_picture(self):
        picture = self.picture("aab", "bab")
        for x, y in ((-1, 0), (0, -1), (3, 0), (0, 2), (3, 2), (-1, -1), (2, 3), (-3, 0), (10 ** 20, 0)):
            self.assert_refused(NoCell, flooded, picture, x, y, GREEN)
        self.assertEqual(flooded(picture, 2, 1, GREEN), self.picture("aac", "bac"))


class AreasTest(unittest.TestCase):
    def told(self, *rows):
        return areas((len(rows[0]), len(rows), tuple([(ord(sign), 0, 0, 255) for row in rows for sign in row])))

    def test_numbered_as_they_come_first(self):
        self.assertEqual(self.told("aab", "cab", "ccb"), (0, 0, 1, 2, 0, 1, 2, 2, 1))
        self.assertEqual(self.told("bba", "acb"), (0, 0, 1, 2, 3, 4))

    def test_one_colour_in_several_areas(self):
        self.assertEqual(self.told("aba", "bab"), (0, 1, 2, 3, 4, 5))
        self.assertEqual(self.told("aba", "aaa"), (0, 1, 0, 0, 0, 0))

    def test_an_area_that_comes_together_late(self):
        self.assertEqual(self.told("ababa", "abbba", "aaaaa"), (0, 1, 2, 1, 0, 0, 1, 1, 1, 0, 0, 0, 0, 0, 0))

    def test_unlike_colours_that_are_clear(self):
        self.assertEqual(areas((2, 1, (CLEAR, (1, 0, 0, 0)))), (0, 1))

    def test_of_great_ones(self):
        self.assertEqual(areas(plain_one(99, 99, WHITE)), (0,) * 9801)
        self.assertEqual(areas(numbered(99, 99)), tuple(range(9801)))
        self.assertEqual(areas(plain_one(1, 1, WHITE)), (0,))

    def test_areas_are_what_is_flooded(self):
        picture = scattered_picture(5, 9, 7, 2)
        few = (9, 7, tuple([(cell[0], 0, 0, 255) for cell in picture[2]]))
        numbers = areas(few)
        self.assertEqual(sorted(set(numbers)), list(range(max(numbers) + 1)))
        for at, number in enumerate(numbers):
            changed = flooded(few, at % 9, at // 9, GREEN)[2]
            self.assertEqual([cell == GREEN for cell in changed], [other == number for other in numbers])


if __name__ == "__main__":
    unittest.main()
