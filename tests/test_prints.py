"""Promises 9.1 to 9.4 of prints, and 0.2 (a) and (h) as far as they speak of them."""

import unittest
from fractions import Fraction
from math import floor

from helping import BLUE, CLEAR, GREEN, RED, WHITE, half_up, numbered, scattered, scattered_picture
from paintyard.colours import distance, grey, laid_over
from paintyard.palettes import palette_for
from paintyard.pictures import is_mask, is_picture, plain_one
from paintyard.prints import carried, dotted, inks, read_sheets, screen_of, sheets, unprinted

BLACK = (0, 0, 0, 255)
SIZES = (1, 2, 4, 8)
BLACK_AND_WHITE = (BLACK, WHITE)


def grey_one(width, height, light):
    """A full picture of one grey."""
    return plain_one(width, height, (light, light, light, 255))


def told_carried(picture, palette):
    """9.3 told anew: what is carried stands at places, in and beside the picture alike."""
    width, height, cells = picture
    carried_to = {}
    told = []
    for at, cell in enumerate(cells):
        x, y = at % width, at // width
        added = [cell[k] + carried_to.get((x, y), (0, 0, 0))[k] for k in range(3)]
        sought = tuple([sorted((0, part, 255))[1] for part in added]) + (cell[3],)
        ways = [distance(colour, sought) for colour in palette]
        found = palette[ways.index(min(ways))]
        told.append(found)
        for k in range(3):
            e = added[k] - found[k]
            right, left, below = [floor(Fraction(n * e, 16)) for n in (7, 3, 5)]
            for p, q, amount in ((1, 0, right), (-1, 1, left), (0, 1, below), (1, 1, e - right - left - below)):
                sums = list(carried_to.get((x + p, y + q), (0, 0, 0)))
                sums[k] += amount
                carried_to[(x + p, y + q)] = tuple(sums)
    beside = [sums for (x, y), sums in carried_to.items() if not (0 <= x < width and 0 <= y < height)]
    return ((width, height, tuple(told)), tuple([sum([sums[k] for sums in beside]) for k in range(3)]))


def sums_of(picture):
    """The sums of red, green and blue over all cells."""
    return tuple([sum([cell[k] for cell in picture[2]]) for k in range(3)])


class InksTest(unittest.TestCase):
    def test_full_colours(self):
        self.assertEqual(inks(RED), (0, 255, 255, 0))
        self.assertEqual(inks(GREEN), (255, 0, 255, 0))
        self.assertEqual(inks(BLUE), (255, 255, 0, 0))
        self.assertEqual(inks((10, 20, 5, 255)), (10, 0, 15, 235))

    def test_black_white_and_greys(self):
        self.assertEqual(inks(BLACK), (0, 0, 0, 255))
        self.assertEqual(inks(WHITE), (0, 0, 0, 0))
        for light in range(256):
            self.assertEqual(inks((light, light, light, 255)), (0, 0, 0, 255 - light))

    def test_clear_and_half_covered_colours(self):
        self.assertEqual(inks(CLEAR), (0, 0, 0, 0))
        self.assertEqual(inks((1, 2, 3, 0)), (0, 0, 0, 0))
        # Red over white is (255, 127, 127).
        self.assertEqual(inks((255, 0, 0, 128)), (0, 128, 128, 0))
        self.assertEqual(inks((0, 0, 0, 51)), (0, 0, 0, 51))
        # (0, 100, 200) over white by 102 of 255: (153, 193, 233).
        self.assertEqual(inks((0, 100, 200, 102)), (80, 40, 0, 22))

    def test_held_against_the_words(self):
        for colour in scattered_picture(1, 20, 20)[2]:
            over = laid_over(colour, WHITE)[:3]
            k = 255 - max(over)
            self.assertEqual(inks(colour), tuple([max(over) - part for part in over]) + (k,))

    def test_each_full_colour_comes_back(self):
        for red, green, blue, cover in scattered_picture(2, 30, 30)[2] + (RED, GREEN, BLUE, WHITE, BLACK):
            self.assertEqual(unprinted(inks((red, green, blue, 255))), (red, green, blue, 255))

    def test_unprinted(self):
        self.assertEqual(unprinted((0, 0, 0, 0)), WHITE)
        self.assertEqual(unprinted((0, 0, 0, 255)), BLACK)
        self.assertEqual(unprinted((10, 20, 30, 40)), (205, 195, 185, 255))

    def test_inks_beyond_255(self):
        self.assertEqual(unprinted((255, 255, 255, 255)), BLACK)
        self.assertEqual(unprinted((200, 54, 55, 200)), (0, 1, 0, 255))
        self.assertEqual(unprinted((56, 55, 54, 200)), (0, 0, 1, 255))
        self.assertEqual(unprinted((255, 0, 0, 1)), (0, 254, 254, 255))


class ScreenTest(unittest.TestCase):
    def test_by_hand(self):
        self.assertEqual(screen_of(1), ((0,),))
        self.assertEqual(screen_of(2), ((0, 2), (1, 3)))
        self.assertEqual(screen_of(4), ((0, 8, 2, 10), (4, 12, 6, 14), (1, 9, 3, 11), (5, 13, 7, 15)))

    def test_all_numbers_once(self):
        for size in SIZES:
            screen = screen_of(size)
            self.assertEqual([len(row) for row in screen], [size] * size)
            self.assertEqual(sorted([n for row in screen for n in row]), list(range(size * size)))
            self.assertTrue(isinstance(screen, tuple) and all([isinstance(row, tuple) for row in screen]))

    def test_each_number_of_the_half_one_four_times(self):
        for size in (2, 4, 8):
            screen, half = screen_of(size), screen_of(size // 2)
            for y, row in enumerate(half):
                for x, n in enumerate(row):
                    self.assertEqual(screen[y][x], 4 * n)
                    self.assertEqual(screen[y + size // 2][x + size // 2], 4 * n + 3)
                    self.assertEqual(screen[y][x + size // 2], 4 * n + 2)
                    self.assertEqual(screen[y + size // 2][x], 4 * n + 1)


class DottedTest(unittest.TestCase):
    def test_one_cell_and_size_1(self):
        # 254 is less than 255, 256 more.
        self.assertEqual(dotted((3, 1, ((127,) * 3 + (255,), (128,) * 3 + (255,), BLACK)), 1), (3, 1, (0, 255, 0)))

    def test_by_hand(self):
        # 8 times 100 is 800: more than 255 and 765, not than 1275.
        self.assertEqual(dotted(grey_one(3, 3, 100), 2), (3, 3, (255, 0, 255, 255, 0, 255, 255, 0, 255)))

    def test_beside_the_half(self):
        for size in SIZES:
            many = size * size
            screen = [n for row in screen_of(size) for n in row]
            for n in range(many):
                # The least grey with a dot at this number, and the one below it.
                least = 255 * (2 * n + 1) // (2 * many) + 1
                for light, told in ((least, 255), (least - 1, 0)):
                    at = screen.index(n)
                    self.assertEqual(dotted(grey_one(size, size, light), size)[2][at], told)

    def test_clear_cells_are_white_paper(self):
        for size in SIZES:
            self.assertEqual(dotted(plain_one(9, 9, CLEAR), size), (9, 9, (255,) * 81))
            self.assertEqual(dotted(plain_one(9, 9, (0, 0, 0, 1)), size), dotted(grey_one(9, 9, 254), size))
            self.assertEqual(dotted(plain_one(9, 9, BLACK), size), (9, 9, (0,) * 81))
            self.assertEqual(dotted(plain_one(9, 9, WHITE), size), (9, 9, (255,) * 81))

    def test_as_many_dots_as_the_share_of_a_plain_grey(self):
        for size in SIZES:
            for light in range(256):
                dots = dotted(grey_one(size, size, light), size)[2].count(255)
                self.assertEqual(dots, half_up(light * size * size, 255))
                if light % 51 == 0:
                    self.assertEqual(dotted(grey_one(3 * size, 2 * size, light), size)[2].count(255), 6 * dots)

    def test_held_against_the_words(self):
        for size in SIZES:
            screen = screen_of(size)
            for width, height in ((1, 1), (3, 2), (5, 7), (8, 8), (11, 19)):
                picture = scattered_picture(width, width, height)
                mask = dotted(picture, size)
                self.assertTrue(is_mask(mask))
                self.assertEqual(mask[:2], (width, height))
                for at, cell in enumerate(picture[2]):
                    light = grey(laid_over(cell, WHITE))[0]
                    number = screen[at // width % size][at % width % size]
                    more = Fraction(light * size * size, 255) > number + Fraction(1, 2)
                    self.assertEqual(mask[2][at], 255 if more else 0)


class CarriedTest(unittest.TestCase):
    def test_one_cell(self):
        self.assertEqual(carried(grey_one(1, 1, 100), BLACK_AND_WHITE), (grey_one(1, 1, 0), (100, 100, 100)))
        self.assertEqual(carried(grey_one(1, 1, 200), BLACK_AND_WHITE), (grey_one(1, 1, 255), (-55, -55, -55)))

    def test_to_the_right(self):
        # 100 is black, 43 goes right: 143 is white, -112 are left; 18, 31 and 26, and all of -112, are lost.
        picture = grey_one(2, 1, 100)
        self.assertEqual(carried(picture, BLACK_AND_WHITE), ((2, 1, (BLACK, WHITE)), (-55, -55, -55)))

    def test_below(self):
        # Of 100 31 go below: 131 is white.
        picture = grey_one(1, 2, 100)
        self.assertEqual(carried(picture, BLACK_AND_WHITE), ((1, 2, (BLACK, WHITE)), (-55, -55, -55)))
        # Of 96 30 go below: 126 is black.
        self.assertEqual(carried(grey_one(1, 2, 96), BLACK_AND_WHITE), ((1, 2, (BLACK, BLACK)), (192, 192, 192)))

    def test_below_left_and_below_right(self):
        light = (((0, 0, 0, 255), (90, 90, 90, 255), (0, 0, 0, 255)) + ((110, 110, 110, 255),) * 3)
        # Of 90 39 go right, of which 17 go on; 16 below left, 28 below, 7 below right.
        told = carried((3, 2, light), BLACK_AND_WHITE)
        self.assertEqual(told, told_carried((3, 2, light), BLACK_AND_WHITE))
        self.assertEqual(told[0][2], (BLACK, BLACK, BLACK, BLACK, WHITE, BLACK))

    def test_errors_below_0_are_rounded_down_too(self):
        # -1 to the right is -1, below left -1, below -1, and the rest, 2, below right.
        grey_254 = (254, 254, 254, 255)
        self.assertEqual(carried((1, 1, (grey_254,)), (WHITE,))[1], (-1, -1, -1))
        two = carried((2, 2, (grey_254, WHITE, WHITE, WHITE)), (WHITE,))
        self.assertEqual(two, ((2, 2, (WHITE,) * 4), (-1, -1, -1)))
        shades = tuple([(k, k, k, 255) for k in range(250, 256)])
        picture = (3, 2, (WHITE, (251, 251, 251, 255), WHITE, (253,) * 3 + (255,), WHITE, WHITE))
        self.assertEqual(carried(picture, shades), told_carried(picture, shades))

    def test_parts_are_apart(self):
        told = carried((2, 1, ((100, 0, 200, 255), (0, 0, 0, 255))), BLACK_AND_WHITE)
        self.assertEqual(told, ((2, 1, (BLACK, BLACK)), (100, 0, 200)))

    def test_sums_below_0_and_above_255(self):
        # Only black can be told: what is carried grows beyond 255.
        picture = plain_one(5, 5, WHITE)
        self.assertEqual(carried(picture, (BLACK,)), (plain_one(5, 5, BLACK), (25 * 255,) * 3))
        self.assertEqual(carried(plain_one(5, 5, BLACK), (WHITE,)), (picture, (-25 * 255,) * 3))

    def test_what_is_sought_is_a_part_but_what_is_carried_is_not(self):
        # In the second cell 255 and 98 stand: 255 is sought, not 353, so the nearer cover is found.
        palette = ((30, 30, 30, 255), (255, 255, 255, 0))
        picture = (2, 1, ((255, 255, 255, 255), (255, 255, 255, 10)))
        self.assertEqual(carried(picture, palette), told_carried(picture, palette))
        found = 0
        for seed in range(60):
            picture = scattered_picture(seed, 6, 4)
            few = scattered_picture(seed + 500, 3, 1)[2]
            told = carried(picture, few)
            self.assertEqual(told, told_carried(picture, few))
            found += told[1] != (0, 0, 0)
        self.assertGreater(found, 30)

    def test_covers_are_sought_and_not_carried(self):
        palette = ((9, 9, 9, 0), (9, 9, 9, 255))
        cells = tuple([(9, 9, 9, cover) for cover in (0, 127, 128, 255, 100, 100, 100, 100)])
        told = ((9, 9, 9, 0),) * 2 + ((9, 9, 9, 255),) * 2 + ((9, 9, 9, 0),) * 4
        self.assertEqual(carried((4, 2, cells), palette), ((4, 2, told), (0, 0, 0)))

    def test_the_same_colour_twice_and_of_several_the_first(self):
        picture = scattered_picture(7, 5, 5)
        few = palette_for(picture, 4)
        self.assertEqual(carried(picture, few + few[::-1]), carried(picture, few))
        middle = (10, 10, 10, 255)
        self.assertEqual(carried((1, 1, (middle,)), ((0, 10, 10, 255), (20, 10, 10, 255)))[0][2], ((0, 10, 10, 255),))
        self.assertEqual(carried((1, 1, (middle,)), ((20, 10, 10, 255), (0, 10, 10, 255)))[0][2], ((20, 10, 10, 255),))

    def test_one_wide_and_one_high(self):
        for width, height in ((1, 1), (1, 9), (9, 1), (2, 9), (9, 2)):
            for seed in range(10):
                picture = scattered_picture(seed, width, height)
                self.assertEqual(carried(picture, BLACK_AND_WHITE), told_carried(picture, BLACK_AND_WHITE))

    def test_each_edge_and_corner(self):
        # One cell alone has an error: it is seen where it goes, by a palette that has all other colours.
        shades = tuple([(k, k, k, 255) for k in range(100, 156) if k != 120])
        for at in range(9):
            cells = [(110, 110, 110, 255)] * 9
            cells[at] = (120, 120, 120, 255)
            picture = (3, 3, tuple(cells))
            self.assertEqual(carried(picture, shades), told_carried(picture, shades))
            cells[at] = (200, 190, 50, 255)
            self.assertEqual(carried((3, 3, tuple(cells)), shades), told_carried((3, 3, tuple(cells)), shades))

    def test_nothing_is_lost_but_at_the_edges(self):
        for seed in range(30):
            picture = scattered_picture(seed, 1 + seed % 9, 1 + seed % 7)
            told, lost = carried(picture, palette_for(picture, 1 + seed % 6))
            self.assertTrue(is_picture(told))
            self.assertEqual(told[:2], picture[:2])
            self.assertEqual(tuple([p + q for p, q in zip(sums_of(told), lost)]), sums_of(picture))

    def test_colours_of_the_palette_stay(self):
        picture = numbered(6, 5)
        self.assertEqual(carried(picture, picture[2]), (picture, (0, 0, 0)))

    def test_no_palette_changes_nothing(self):
        self.assertEqual(carried(numbered(3, 3), ()), (numbered(3, 3), (0, 0, 0)))


class SheetsTest(unittest.TestCase):
    def test_by_hand(self):
        self.assertEqual(sheets(1), (((None, 0), (None, None)),))
        self.assertEqual(sheets(2), (((None, 0), (1, None)),))
        self.assertEqual(sheets(3), (((None, 0), (1, 2)),))
        self.assertEqual(sheets(4), (((3, 0), (1, 2)),))
        self.assertEqual(sheets(5), (((None, 0), (1, None)), ((None, 2), (3, 4))))
        self.assertEqual(sheets(8), (((7, 0), (1, 6)), ((5, 2), (3, 4))))
        self.assertEqual(sheets(9), (((None, 0), (1, None)), ((None, 2), (3, 8)), ((7, 4), (5, 6))))
        self.assertEqual(sheets(12), (((11, 0), (1, 10)), ((9, 2), (3, 8)), ((7, 4), (5, 6))))

    def test_as_few_sheets_as_hold_them(self):
        for many in range(1, 100):
            told = sheets(many)
            self.assertTrue(4 * len(told) - 4 < many <= 4 * len(told))
            pages = [page for sheet in told for side in sheet for page in side]
            self.assertEqual(len(pages), 4 * len(told))
            self.assertEqual(sorted([page for page in pages if page is not None]), list(range(many)))

    def test_a_folded_book_has_its_pages_in_order(self):
        for many in range(1, 100):
            self.assertEqual(read_sheets(sheets(many)), tuple(range(many)))

    def test_no_pages(self):
        self.assertEqual(sheets(0), ())
        self.assertEqual(read_sheets(()), ())

    def test_one_page_alone_is_none(self):
        whole = (((7, 0), (1, 6)), ((5, 2), (3, 4)))
        for page in range(8):
            told = tuple([tuple([tuple([None if one == page else one for one in side]) for side in sheet]) for sheet in whole])
            self.assertEqual(read_sheets(told), tuple([one for one in range(8) if one != page]))
        self.assertEqual(read_sheets((((None, None), (3, 0)),)), (3, 0))
        self.assertEqual(read_sheets((((3, 0), (None, None)),)), (0, 3))
        self.assertEqual(read_sheets((((None, None), (None, None)),)), ())

    def test_sheets_in_any_order(self):
        outer, middle, inner = sheets(12)
        self.assertEqual(read_sheets((inner, middle, outer)), (4, 5, 2, 3, 0, 1, 10, 11, 8, 9, 6, 7))
        self.assertEqual(read_sheets((middle,)), (2, 3, 8, 9))
        self.assertEqual(read_sheets((outer, outer)), (0, 1, 0, 1, 10, 11, 10, 11))
        self.assertEqual(read_sheets((((40, 10), (20, 30)),)), (10, 20, 30, 40))

    def test_held_against_turning_the_leaves(self):
        for seed in range(20):
            pages = [n if n % 5 else None for n in scattered(seed, 4 * (1 + seed % 5), 50)]
            told = tuple([((p, q), (r, s)) for p, q, r, s in zip(*[iter(pages)] * 4)])
            # The right halves come first, each leaf with both its sides; then the left halves, from the innermost.
            rights = [page for (p, q), (r, s) in told for page in (q, r)]
            lefts = [page for (p, q), (r, s) in told[::-1] for page in (s, p)]
            self.assertEqual(read_sheets(told), tuple([page for page in rights + lefts if page is not None]))


if __name__ == "__main__":
    unittest.main()
