"""Promises 10.1 and 10.2 of tiles, and 0.2 (a) and (i) as far as they speak of them."""

import unittest
from itertools import permutations

from helping import BLUE, CLEAR, GREEN, RED, STRANGE, Refusing, numbered, scattered, scattered_picture
from paintyard.colours import mean_colour
from paintyard.errors import BadTiles, NoCell, TooGreat, Uneven
from paintyard.pictures import cell_at, cut_out, is_picture, mirrored, plain_one, turned, with_cell
from paintyard.tiles import changed_tiles, halved, in_tiles, joined_tiles, seen_at, stepped

A, B, C, D, E, F = [(k, k, k, 255) for k in range(1, 7)]
SIX = (3, 2, (A, B, C, D, E, F))
SHAPES = ((1, 1), (1, 5), (5, 1), (2, 2), (3, 2), (4, 6), (7, 7), (9, 4))


def told_tiles(picture, size):
    """10.1 told anew: each cell is put to its tile."""
    width, height, cells = picture
    found = {}
    for at, cell in enumerate(cells):
        x, y = at % width, at // width
        found.setdefault((y // size, x // size), []).append(((y, x), cell))
    told = []
    for (row, column), inside in sorted(found.items()):
        wide = len({x for (y, x), cell in inside})
        told.append((row, column, (wide, len(inside) // wide, tuple([cell for place, cell in sorted(inside)]))))
    return tuple(told)


def can_be_told(tiles):
    """Whether any picture and size tell these tiles, by going through all sizes and all ways to be as great."""
    for size in range(1, 100):
        places = {}
        for row, column, (wide, high, cells) in tiles:
            for at, cell in enumerate(cells):
                places[(row * size + at // wide, column * size + at % wide)] = cell
        height = 1 + max([y for y, x in places])
        width = 1 + max([x for y, x in places])
        if len(places) == width * height and min(places) == (0, 0) and 1 <= width <= 99 and 1 <= height <= 99:
            picture = (width, height, tuple([cell for place, cell in sorted(places.items())]))
            if told_tiles(picture, size) == tiles:
                return True
    return False


class InTilesTest(unittest.TestCase):
    def test_by_hand(self):
        self.assertEqual(in_tiles(SIX, 1), (
            (0, 0, (1, 1, (A,))), (0, 1, (1, 1, (B,))), (0, 2, (1, 1, (C,))),
            (1, 0, (1, 1, (D,))), (1, 1, (1, 1, (E,))), (1, 2, (1, 1, (F,)))))
        self.assertEqual(in_tiles(SIX, 2), ((0, 0, (2, 2, (A, B, D, E))), (0, 1, (1, 2, (C, F)))))
        for size in (3, 4, 99, 1000):
            self.assertEqual(in_tiles(SIX, size), ((0, 0, SIX),))

    def test_held_against_cell_by_cell(self):
        for width, height in SHAPES:
            for size in range(1, 11):
                picture = numbered(width, height)
                tiles = in_tiles(picture, size)
                self.assertEqual(tiles, told_tiles(picture, size))
                self.assertEqual(list(tiles), sorted(tiles))
                self.assertTrue(all([is_picture(tile[2]) for tile in tiles]))

    def test_a_size_below_1_is_not_refused(self):
        self.assertEqual(in_tiles(SIX, 0), in_tiles(SIX, 1))


class JoinedTilesTest(Refusing):
    def test_tiles_joined_are_the_picture(self):
        for width, height in SHAPES + ((99, 99), (99, 1), (1, 99)):
            picture = numbered(width, height)
            for size in (1, 2, 3, 4, 5, 7, 50, 98, 99, 100):
                self.assertEqual(joined_tiles(in_tiles(picture, size)), picture)

    def test_no_tile(self):
        self.assert_refused(BadTiles, joined_tiles, ())

    def test_one_tile_alone(self):
        self.assertEqual(joined_tiles(((0, 0, SIX),)), SIX)
        for row, column in ((0, 1), (1, 0), (1, 1), (-1, 0), (0, -1), (10 ** 20, 0)):
            self.assert_refused(BadTiles, joined_tiles, ((row, column, SIX),))

    def test_tiles_left_out(self):
        for size in (1, 2, 3):
            tiles = in_tiles(numbered(5, 4), size)
            for at in range(len(tiles)):
                self.assert_refused(BadTiles, joined_tiles, tiles[:at] + tiles[at + 1:])

    def test_a_whole_row_or_column_left_out(self):
        picture = numbered(6, 6)
        tiles = in_tiles(picture, 2)
        # Without the last row of tiles it is another picture's, without another it is none's.
        self.assertEqual(joined_tiles(tiles[:6]), cut_out(picture, 0, 0, 6, 4))
        self.assertEqual(joined_tiles(tuple([tile for tile in tiles if tile[1] < 2])), cut_out(picture, 0, 0, 4, 6))
        self.assert_refused(BadTiles, joined_tiles, tiles[3:])
        self.assert_refused(BadTiles, joined_tiles, tiles[:3] + tiles[6:])
        self.assert_refused(BadTiles, joined_tiles, tuple([tile for tile in tiles if tile[1] != 1]))
        self.assert_refused(BadTiles, joined_tiles, tuple([tile for tile in tiles if tile[1] != 0]))

    def test_tiles_out_of_order(self):
        tiles = in_tiles(SIX, 1)
        for order in permutations(tiles[:3]):
            if order == tiles[:3]:
                self.assertEqual(joined_tiles(order + tiles[3:]), SIX)
            else:
                self.assert_refused(BadTiles, joined_tiles, order + tiles[3:])
        self.assert_refused(BadTiles, joined_tiles, tiles[::-1])

    def test_pictures_exchanged(self):
        tiles = in_tiles(numbered(5, 4), 2)
        for at in range(len(tiles)):
            for other in range(at):
                exchanged = list(tiles)
                exchanged[at] = tiles[at][:2] + tiles[other][2:]
                exchanged[other] = tiles[other][:2] + tiles[at][2:]
                if tiles[at][2][:2] == tiles[other][2][:2]:
                    self.assertEqual(in_tiles(joined_tiles(tuple(exchanged)), 2), tuple(exchanged))
                else:
                    self.assert_refused(BadTiles, joined_tiles, tuple(exchanged))

    def test_tiles_twice(self):
        tiles = in_tiles(numbered(5, 4), 2)
        for at in range(len(tiles)):
            self.assert_refused(BadTiles, joined_tiles, tiles[:at] + tiles[at:at + 1] + tiles[at:])
        self.assert_refused(BadTiles, joined_tiles, tiles + tiles)
        self.assert_refused(BadTiles, joined_tiles, ((0, 0, SIX), (0, 0, SIX)))

    def test_tiles_of_other_sizes(self):
        good = in_tiles(plain_one(5, 5, RED), 2)
        for at in range(len(good)):
            for width, height in ((1, 1), (1, 2), (2, 1), (2, 2), (3, 2), (2, 3), (3, 3), (9, 9)):
                tiles = good[:at] + ((good[at][0], good[at][1], plain_one(width, height, RED)),) + good[at + 1:]
                if (width, height) == good[at][2][:2]:
                    self.assertEqual(joined_tiles(tiles), plain_one(5, 5, RED))
                else:
                    self.assertFalse(can_be_told(tiles))
                    self.assert_refused(BadTiles, joined_tiles, tiles)

    def test_tiles_that_are_not_square(self):
        # Side by side the first may be as high as it is wide, no higher.
        for height, fine in ((1, True), (2, True), (3, False)):
            tiles = ((0, 0, plain_one(2, height, RED)), (0, 1, plain_one(1, height, BLUE)))
            self.assertEqual(can_be_told(tiles), fine)
            if fine:
                self.assertEqual(joined_tiles(tiles), (3, height, (RED, RED, BLUE) * height))
            else:
                self.assert_refused(BadTiles, joined_tiles, tiles)

    def test_a_last_tile_that_is_greater(self):
        one = plain_one(1, 1, RED)
        self.assert_refused(BadTiles, joined_tiles, ((0, 0, one), (0, 1, plain_one(2, 1, RED))))
        self.assert_refused(BadTiles, joined_tiles, ((0, 0, one), (1, 0, plain_one(1, 2, RED))))
        self.assertEqual(joined_tiles(((0, 0, one), (0, 1, one))), plain_one(2, 1, RED))

    def test_more_than_a_picture_may_have(self):
        fifty = plain_one(50, 50, RED)
        row = ((0, 0, fifty), (0, 1, fifty))
        self.assert_refused(BadTiles, joined_tiles, row)
        self.assertEqual(joined_tiles((row[0], (0, 1, plain_one(49, 50, RED)))), plain_one(99, 50, RED))
        self.assert_refused(BadTiles, joined_tiles, ((0, 0, fifty), (1, 0, fifty)))
        self.assertEqual(joined_tiles((row[0], (1, 0, plain_one(50, 49, RED)))), plain_one(50, 99, RED))
        ones = tuple([(0, k, plain_one(1, 1, RED)) for k in range(100)])
        self.assert_refused(BadTiles, joined_tiles, ones)
        self.assertEqual(joined_tiles(ones[:99]), plain_one(99, 1, RED))

    def test_rows_and_columns_that_begin_elsewhere(self):
        tiles = in_tiles(numbered(4, 4), 2)
        for down, across in ((1, 0), (0, 1), (-1, 0), (0, -1), (5, 5)):
            moved = tuple([(row + down, column + across, piece) for row, column, piece in tiles])
            self.assert_refused(BadTiles, joined_tiles, moved)
        doubled = tuple([(2 * row, 2 * column, piece) for row, column, piece in tiles])
        self.assert_refused(BadTiles, joined_tiles, doubled)

    def test_things_that_are_no_tiles(self):
        tiles = in_tiles(SIX, 2)
        for thing in (None, True, "0", 1, (), (1, 1, (7,)), (2, 2, (A,) * 3), (0, 0, ()), (100, 1, (A,) * 100)):
            self.assert_refused(BadTiles, joined_tiles, ((0, 0, thing),) + tiles[1:])
            self.assert_refused(BadTiles, joined_tiles, ((0, 0, thing),))
            self.assert_refused(BadTiles, joined_tiles, tiles[:1] + (thing,))
        for truth in (False, True):
            self.assert_refused(BadTiles, joined_tiles, ((truth, 0, SIX),))
            self.assert_refused(BadTiles, joined_tiles, tiles[:1] + ((0, truth) + tiles[1][2:],))
        for thing in STRANGE + (list(tiles), (list(tiles[0]),) + tiles[1:], tiles[0], (tiles,)):
            self.assert_refused(BadTiles, joined_tiles, thing)

    def test_scattered_tiles(self):
        good = 0
        for seed in range(300):
            numbers = scattered(seed, 20, 3)
            tiles = []
            for k in range(1 + seed % 4):
                row, column, width, height = numbers[4 * k:4 * k + 4]
                tiles.append((row % 2, column % 2, plain_one(1 + width % 2, 1 + height % 2, RED)))
            tiles = tuple(sorted(tiles))
            if can_be_told(tiles):
                good += 1
                self.assertTrue(is_picture(joined_tiles(tiles)))
            else:
                self.assert_refused(BadTiles, joined_tiles, tiles)
        self.assertGreater(good, 15)


class ChangedTilesTest(Refusing):
    def test_none_one_and_all(self):
        for width, height in SHAPES:
            picture = numbered(width, height)
            for size in (1, 2, 3, 9, 10):
                self.assertEqual(changed_tiles(picture, picture, size), ())
                all_of_them = tuple([tile[:2] for tile in in_tiles(picture, size)])
                self.assertEqual(changed_tiles(picture, plain_one(width, height, CLEAR), size), all_of_them)
                for at in range(width * height):
                    x, y = at % width, at // width
                    changed = with_cell(picture, x, y, CLEAR)
                    self.assertEqual(changed_tiles(picture, changed, size), ((y // size, x // size),))
                    self.assertEqual(changed_tiles(changed, picture, size), ((y // size, x // size),))

    def test_several_are_rising(self):
        picture = plain_one(5, 5, RED)
        changed = picture
        for x, y in ((4, 4), (0, 4), (2, 2), (4, 0), (3, 3)):
            changed = with_cell(changed, x, y, GREEN)
        self.assertEqual(changed_tiles(picture, changed, 2), ((0, 2), (1, 1), (2, 0), (2, 2)))

    def test_what_is_not_told_is_alike(self):
        for seed in range(20):
            one, other = [scattered_picture(seed + k, 6, 5, 2) for k in (0, 100)]
            told = changed_tiles(one, other, 2)
            for first, second in zip(in_tiles(one, 2), in_tiles(other, 2)):
                self.assertEqual(first == second, first[:2] not in told)

    def test_uneven(self):
        for width, height in ((3, 3), (4, 2), (2, 2), (3, 1), (2, 3), (1, 6), (6, 1)):
            self.assert_refused(Uneven, changed_tiles, SIX, numbered(width, height), 1)
            self.assert_refused(Uneven, changed_tiles, numbered(width, height), SIX, 1)


class HalvedTest(unittest.TestCase):
    def test_one_cell(self):
        self.assertEqual(halved((1, 1, (A,))), (1, 1, (A,)))
        self.assertEqual(halved((1, 1, ((9, 8, 7, 0),))), (1, 1, (CLEAR,)))

    def test_even_and_odd_ones(self):
        self.assertEqual(halved((2, 2, (A, B, D, E))), (1, 1, ((3, 3, 3, 255),)))
        self.assertEqual(halved(SIX), (2, 1, ((3, 3, 3, 255), (5, 5, 5, 255))))
        self.assertEqual(halved((2, 1, (A, B))), (1, 1, ((2, 2, 2, 255),)))
        self.assertEqual(halved((1, 3, (A, B, C))), (1, 2, ((2, 2, 2, 255), C)))
        self.assertEqual(halved((3, 1, (A, C, F))), (2, 1, (B, F)))

    def test_covers_count(self):
        self.assertEqual(halved((2, 1, ((100, 0, 0, 255), (0, 0, 0, 0)))), (1, 1, ((100, 0, 0, 128),)))

    def test_held_against_the_words(self):
        for width, height in SHAPES + ((99, 1), (1, 99), (50, 3)):
            picture = scattered_picture(width * height, width, height)
            wide, high = -(-width // 2), -(-height // 2)
            cells = []
            for y in range(high):
                for x in range(wide):
                    places = [(2 * x + p, 2 * y + q) for q in (0, 1) for p in (0, 1)]
                    cells.append(mean_colour([cell_at(picture, p, q) for p, q in places if p < width and q < height]))
            self.assertEqual(halved(picture), (wide, high, tuple(cells)))
            self.assertTrue(is_picture(halved(picture)))


class SteppedTest(unittest.TestCase):
    def test_sizes(self):
        self.assertEqual([step[:2] for step in stepped(numbered(1, 1))], [(1, 1)])
        self.assertEqual([step[:2] for step in stepped(numbered(2, 7))], [(2, 7), (1, 4), (1, 2), (1, 1)])
        self.assertEqual([step[:2] for step in stepped(numbered(99, 99))], [
            (99, 99), (50, 50), (25, 25), (13, 13), (7, 7), (4, 4), (2, 2), (1, 1)])
        self.assertEqual([step[:2] for step in stepped(numbered(1, 2))], [(1, 2), (1, 1)])
        self.assertEqual([step[:2] for step in stepped(numbered(64, 1))], [(2 ** k, 1) for k in range(6, -1, -1)])

    def test_each_step_is_the_half_of_the_one_ahead(self):
        for width, height in SHAPES:
            picture = scattered_picture(width, width, height)
            steps = stepped(picture)
            self.assertIsInstance(steps, tuple)
            self.assertEqual(steps[0], picture)
            self.assertEqual(len(steps[-1][2]), 1)
            for step, later in zip(steps, steps[1:]):
                self.assertEqual(later, halved(step))
                self.assertGreater(len(step[2]), 1)


class SeenAtTest(Refusing):
    PICTURE = scattered_picture(5, 13, 9)
    STEPS = stepped(PICTURE)

    def told_place(self, step, x, y, width, height):
        """The place in a step that 10.2 tells: where the cells of the first are found in it."""
        columns = sorted({(x + k) // 2 ** step for k in range(width)})
        rows = sorted({(y + k) // 2 ** step for k in range(height)})
        return columns[0], rows[0], len(columns), len(rows)

    def test_held_against_the_words(self):
        for x, y, width, height in ((0, 0, 13, 9), (3, 2, 6, 5), (12, 8, 1, 1), (1, 1, 2, 2), (7, 0, 6, 1), (0, 3, 1, 6)):
            places = [self.told_place(step, x, y, width, height) for step in range(len(self.STEPS))]
            for most in range(1, 120):
                fitting = [k for k, place in enumerate(places) if place[2] * place[3] <= most]
                told = cut_out(self.STEPS[fitting[0]], *places[fitting[0]])
                self.assertEqual(seen_at(self.STEPS, x, y, width, height, most), told)

    def test_just_at_most_and_one_more(self):
        # The whole has 117 cells, then 7 times 5, 4 times 3, 2 times 2, 1.
        for most, step in ((117, 0), (116, 1), (35, 1), (34, 2), (12, 2), (11, 3), (4, 3), (3, 4), (2, 4), (1, 4)):
            self.assertEqual(seen_at(self.STEPS, 0, 0, 13, 9, most), self.STEPS[step])

    def test_a_place_between_the_cells_of_a_step_takes_both(self):
        # Cells 1 and 2 lie in cells 0 and 1 of the half.
        self.assertEqual(seen_at(self.STEPS, 1, 1, 2, 2, 4), cut_out(self.PICTURE, 1, 1, 2, 2))
        self.assertEqual(seen_at(self.STEPS, 1, 1, 3, 3, 8), cut_out(self.STEPS[1], 0, 0, 2, 2))
        self.assertEqual(seen_at(self.STEPS, 3, 3, 2, 2, 3), cut_out(self.STEPS[3], 0, 0, 1, 1))

    def test_no_cell(self):
        wrong = (
            (-1, 0, 2, 2), (0, -1, 2, 2), (12, 0, 2, 1), (0, 8, 1, 2), (13, 0, 1, 1), (0, 9, 1, 1), (0, 0, 14, 1),
            (0, 0, 1, 10), (0, 0, 0, 1), (0, 0, 1, 0), (0, 0, -1, -1), (3, 3, 0, 0), (99, 99, 1, 1), (10 ** 9, 0, 1, 1))
        for place in wrong:
            for most in (0, 1, 1000):
                self.assert_refused(NoCell, seen_at, self.STEPS, *place, most)

    def test_too_great(self):
        for most in (0, -1, -(10 ** 9)):
            self.assert_refused(TooGreat, seen_at, self.STEPS, 0, 0, 13, 9, most)
            self.assert_refused(TooGreat, seen_at, self.STEPS, 3, 3, 1, 1, most)
        for most in (4, 100):
            self.assertTrue(is_picture(seen_at(self.STEPS[:4], 0, 0, 13, 9, most)))
        self.assert_refused(TooGreat, seen_at, self.STEPS[:4], 0, 0, 13, 9, 3)
        self.assert_refused(TooGreat, seen_at, self.STEPS[:1], 0, 0, 13, 9, 116)

    def test_turned_and_mirrored_ones(self):
        # A square of a power of two is cut the same way from all sides.
        picture = scattered_picture(6, 8, 8)
        for change in (turned, mirrored):
            self.assertEqual(stepped(change(picture)), tuple([change(step) for step in stepped(picture)]))


if __name__ == "__main__":
    unittest.main()
