"""Promises 8.1 to 8.3 of files, 0.3 of opened, and 0.2 (a) and (d) as far as they speak of them."""

import unittest

from helping import (
    BLUE, CLEAR, GREEN, RED, STRANGE, Refusing, checked, deep_nest, numbered, one_by_one, scattered, scattered_picture)
from paintyard.errors import BadFile
from paintyard.files import file_of, in_runs, opened, told_row, unrun
from paintyard.pictures import is_picture, plain_one

UNLIKE = tuple([k % 256 for k in range(600)])


def told_runs(told):
    """8.1 told anew: all is looked at from each place on."""
    blocks = ()
    while told:
        many = 1
        while many < len(told) and told[many] == told[0]:
            many += 1
        if many >= 3:
            many = min(many, 130)
            blocks += (many + 125, told[0])
        else:
            places = [k for k in range(len(told) - 2) if told[k] == told[k + 1] == told[k + 2]]
            many = min(places[0] if places else len(told), 128)
            blocks += (many - 1,) + told[:many]
        told = told[many:]
    return blocks


def byte_at(picture, x, y, part):
    """A byte of a cell, 0 beside the picture."""
    width, height, cells = picture
    return cells[y * width + x][part] if 0 <= x < width and 0 <= y < height else 0


def guessed(way, left, above, corner):
    """What a way guesses, told anew."""
    if way == 4:
        sought = left + above - corner
        ways = [abs(left - sought), abs(above - sought), abs(corner - sought)]
        return (left, above, corner)[ways.index(min(ways))]
    return (0, left, above, (left + above) // 2)[way]


def row_by(picture, y, way):
    """The bytes of a row by one way, told anew byte by byte."""
    told = []
    for x in range(picture[0]):
        for part in range(4):
            around = [byte_at(picture, x + p, y + q, part) for p, q in ((-1, 0), (0, -1), (-1, -1))]
            told.append((byte_at(picture, x, y, part) - guessed(way, *around)) % 256)
    return tuple(told)


def file_by_rows(picture, ways, runs=in_runs):
    """A file of the first kind, its rows told by these ways, its runs cut as asked."""
    told = ()
    for y, way in enumerate(ways):
        told += (way,) + row_by(picture, y, way)
    return checked((80, 89, picture[0], picture[1], 0) + tuple(runs(told)))


def file_by_places(picture, colours, places=None, runs=in_runs):
    """A file of the second kind with these colours, as many as there are and in this order."""
    if places is None:
        places = tuple([colours.index(cell) for cell in picture[2]])
    parts = sum(colours, ())
    return checked((80, 89, picture[0], picture[1], 1, len(colours) - 1) + parts + tuple(runs(places)))


def cut_anyhow(told):
    """Blocks cut at scattered places: alike ones cut apart, unlike ones of any length."""
    blocks = ()
    at = 0
    for seed in scattered(len(told), len(told), 1000):
        if at == len(told):
            break
        many = 1
        while at + many < len(told) and told[at + many] == told[at]:
            many += 1
        if many >= 3 and seed % 3:
            many = 3 + seed % (min(many, 130) - 2)
            blocks += (many + 125, told[at])
        else:
            many = min(1 + seed % 20, len(told) - at)
            blocks += (many - 1,) + told[at:at + many]
        at += many
    return blocks


def few_coloured(seed, width, height, many):
    """A picture of at most so many colours."""
    colours = scattered_picture(seed, many, 1)[2]
    return (width, height, tuple([colours[k] for k in scattered(seed + 1, width * height, many)]))


def told_by_words(picture, y):
    """8.2 told anew: all five ways, the first of those that come to least."""
    rows = [row_by(picture, y, way) for way in range(5)]
    sums = [sum([min(byte, 256 - byte) for byte in row]) for row in rows]
    way = sums.index(min(sums))
    return (way, rows[way])


def both_kinds(picture):
    """The files of both kinds that 8.3 tells, the first alone if there are too many colours."""
    ways = [told_by_words(picture, y)[0] for y in range(picture[1])]
    rows = file_by_rows(picture, ways, told_runs)
    colours = sorted(set(picture[2]))
    return (rows, file_by_places(picture, colours, runs=told_runs)) if len(colours) <= 256 else (rows,)


def by_one_place(width, height):
    """What tells a picture of one red colour alone, behind its size."""
    return (1, 0) + RED + in_runs((0,) * (width * height))


class RunsTest(Refusing):
    def test_nothing(self):
        self.assertEqual(in_runs(()), ())
        self.assertEqual(unrun(()), ())

    def test_alike_ones(self):
        expected = {
            1: (0, 7), 2: (1, 7, 7), 3: (128, 7), 4: (129, 7), 129: (254, 7), 130: (255, 7), 131: (255, 7, 0, 7),
            132: (255, 7, 1, 7, 7), 133: (255, 7, 128, 7), 259: (255, 7, 254, 7), 260: (255, 7, 255, 7),
            261: (255, 7, 255, 7, 0, 7)}
        for many, told in expected.items():
            self.assertEqual(in_runs((7,) * many), told)

    def test_unlike_ones(self):
        self.assertEqual(in_runs((1, 2)), (1, 1, 2))
        self.assertEqual(in_runs(UNLIKE[:127]), (126,) + UNLIKE[:127])
        self.assertEqual(in_runs(UNLIKE[:128]), (127,) + UNLIKE[:128])
        self.assertEqual(in_runs(UNLIKE[:129]), (127,) + UNLIKE[:128] + (0, 128))
        self.assertEqual(in_runs(UNLIKE[:256]), (127,) + UNLIKE[:128] + (127,) + UNLIKE[128:256])
        self.assertEqual(in_runs(UNLIKE[:257]), (127,) + UNLIKE[:128] + (127,) + UNLIKE[128:256] + (0, 0))

    def test_unlike_ones_before_and_behind_alike_ones(self):
        self.assertEqual(in_runs((1, 2, 7, 7, 7)), (1, 1, 2, 128, 7))
        self.assertEqual(in_runs((7, 7, 7, 1, 2)), (128, 7, 1, 1, 2))
        self.assertEqual(in_runs((1, 7, 7, 7, 7, 2)), (0, 1, 129, 7, 0, 2))
        self.assertEqual(in_runs((7, 7, 7, 8, 8, 8)), (128, 7, 128, 8))
        self.assertEqual(in_runs((7,) * 131 + (8, 8, 8)), (255, 7, 0, 7, 128, 8))
        self.assertEqual(in_runs((7,) * 132 + (8,)), (255, 7, 2, 7, 7, 8))
        self.assertEqual(in_runs(UNLIKE[:128] + (9, 9, 9)), (127,) + UNLIKE[:128] + (128, 9))
        self.assertEqual(in_runs(UNLIKE[:127] + (9, 9, 9)), (126,) + UNLIKE[:127] + (128, 9))
        self.assertEqual(in_runs(UNLIKE[:129] + (9, 9, 9)), (127,) + UNLIKE[:128] + (0, 128, 128, 9))

    def test_two_alike_between(self):
        self.assertEqual(in_runs((1, 7, 7, 2)), (3, 1, 7, 7, 2))
        self.assertEqual(in_runs((7, 7, 1, 7, 7)), (4, 7, 7, 1, 7, 7))
        self.assertEqual(in_runs((7, 7, 8, 8, 8)), (1, 7, 7, 128, 8))
        self.assertEqual(in_runs((8, 8, 8, 7, 7)), (128, 8, 1, 7, 7))
        # What is cut at 128 may cut two or three alike ones apart.
        self.assertEqual(in_runs(UNLIKE[:127] + (9, 9)), (127,) + UNLIKE[:127] + (9, 0, 9))

    def test_held_against_the_words(self):
        for seed in range(60):
            for below in (1, 2, 3, 256):
                told = tuple(scattered(seed, seed * 7, below))
                self.assertEqual(in_runs(told), told_runs(told))

    def test_what_runs_tell_is_told_back(self):
        for seed in range(60):
            for below in (1, 2, 3, 256):
                told = tuple(scattered(seed, seed * 9, below))
                self.assertEqual(unrun(in_runs(told)), told)
                self.assertEqual(unrun(one_by_one(told)), told)
                self.assertEqual(unrun(cut_anyhow(told)), told)
                self.assertTrue(all([type(byte) is int and 0 <= byte <= 255 for byte in in_runs(told)]))

    def test_blocks_cut_elsewhere(self):
        self.assertEqual(unrun((0, 7, 0, 7, 0, 7)), (7, 7, 7))
        self.assertEqual(unrun((2, 7, 7, 7)), (7, 7, 7))
        self.assertEqual(unrun((128, 7, 129, 7, 0, 7)), (7,) * 8)
        self.assertEqual(unrun((127,) + (5,) * 128), (5,) * 128)
        self.assertEqual(unrun((0, 128, 0, 255, 255, 0)), (128, 255) + (0,) * 130)
        self.assertEqual(unrun((128, 255)), (255,) * 3)

    def test_blocks_cut_short(self):
        for blocks in ((0, 7), (128, 7), (255, 7), (1, 7, 8), (4, 1, 2, 3, 4, 5), (127,) + (3,) * 128):
            for end in range(1, len(blocks)):
                for ahead in ((), (128, 9), (0, 9), (1, 200, 200)):
                    self.assert_refused(BadFile, unrun, ahead + blocks[:end])
            self.assertEqual(unrun((128, 9) + blocks), (9, 9, 9) + unrun(blocks))

    def test_runs_of_runs_cut_short_anywhere(self):
        told = tuple(scattered(5, 90, 2)) + UNLIKE[:40]
        blocks = in_runs(told)
        good = 0
        for end in range(len(blocks)):
            try:
                self.assertEqual(unrun(blocks[:end]), told[:len(unrun(blocks[:end]))])
                good += 1
            except BadFile:
                pass
        # Only where a block ends it is not cut short.
        ends = [0]
        while ends[-1] < len(blocks):
            first = blocks[ends[-1]]
            ends.append(ends[-1] + (2 if first >= 128 else first + 2))
        self.assertEqual(good, len(ends) - 1)


class ToldRowTest(unittest.TestCase):
    def test_each_way_by_hand(self):
        above = ((10, 20, 30, 40), (11, 21, 31, 41))
        picture = (2, 2, above + ((10, 20, 30, 40), (11, 21, 31, 41)))
        self.assertEqual(told_row(picture, 0), (1, (10, 20, 30, 40, 1, 1, 1, 1)))
        self.assertEqual(told_row(picture, 1), (2, (0,) * 8))
        # Half of left and above: of 0 and 201, of 100 and 201.
        picture = (2, 2, ((201,) * 4, (201,) * 4, (100,) * 4, (150,) * 4))
        self.assertEqual(told_row(picture, 1), (3, (0,) * 8))
        # Near 10 is above, near 60 left, near 130 above, 80.
        picture = (3, 2, ((10,) * 4, (10,) * 4, (80,) * 4, (60,) * 4, (60,) * 4, (130,) * 4))
        self.assertEqual(told_row(picture, 1), (4, (50,) * 4 + (0,) * 4 + (50,) * 4))

    def test_nothing_is_guessed(self):
        self.assertEqual(told_row((1, 1, (CLEAR,)), 0), (0, (0,) * 4))
        self.assertEqual(told_row((2, 1, ((1, 1, 1, 1), CLEAR)), 0), (0, (1, 1, 1, 1, 0, 0, 0, 0)))

    def test_of_several_the_first(self):
        # All ways come to the same where there is one cell alone.
        self.assertEqual(told_row((1, 1, ((9, 9, 9, 9),)), 0), (0, (9,) * 4))
        # Left and the fourth way come to the same in the first row.
        self.assertEqual(told_row((3, 1, ((9, 9, 9, 9),) * 3), 0), (1, (9,) * 4 + (0,) * 8))
        # Above and the fourth way come to the same.
        self.assertEqual(told_row((2, 2, ((9,) * 4,) * 4), 1)[0], 2)
        self.assertEqual(told_row((2, 2, (CLEAR,) * 4), 1)[0], 0)

    def test_bytes_are_counted_as_what_they_lack_too(self):
        # 255 counts as 1, so guessing nothing comes to least; 252 counts as 4.
        self.assertEqual(told_row((1, 2, ((3, 3, 3, 3), (255, 255, 255, 255))), 1), (0, (255,) * 4))
        self.assertEqual(told_row((1, 2, ((130,) * 4, (126,) * 4)), 1), (2, (252,) * 4))

    def test_rows_beside_the_picture_are_not_refused(self):
        self.assertEqual(told_row(plain_one(2, 2, RED), 2), (0, ()))
        self.assertEqual(told_row(plain_one(2, 2, RED), -1), (0, (0,) * 8))

    def test_held_against_the_words(self):
        found = {}
        for seed in range(80):
            for below in (2, 4, 40, 256):
                picture = scattered_picture(seed, 1 + seed % 5, 1 + seed % 4, below)
                for y in range(picture[1]):
                    told = told_row(picture, y)
                    self.assertEqual(told, told_by_words(picture, y))
                    found[told[0]] = found.get(told[0], 0) + 1
        self.assertEqual(sorted(found), [0, 1, 2, 3, 4])

    def test_smooth_pictures(self):
        found = set()
        for p, q in ((0, 1), (1, 0), (3, 3), (5, -2), (90, 100)):
            cells = [tuple([(p * x + q * y + 60 * k) % 256 for k in range(4)]) for y in range(6) for x in range(7)]
            for y in range(6):
                told = told_row((7, 6, tuple(cells)), y)
                self.assertEqual(told, told_by_words((7, 6, tuple(cells)), y))
                found.add(told[0])
        self.assertLessEqual({1, 2, 4}, found)


class FileOfTest(unittest.TestCase):
    def test_one_cell(self):
        # By rows seven bytes behind the size, by places eight.
        picture = (1, 1, ((9, 9, 9, 200),))
        self.assertEqual(file_of(picture), checked((80, 89, 1, 1, 0, 0, 0, 128, 9, 0, 200)))
        self.assertEqual(file_of((1, 1, (CLEAR,))), checked((80, 89, 1, 1, 0, 130, 0)))

    def test_the_two_bytes_at_the_end(self):
        told = file_of((1, 1, (CLEAR,)))
        # 80 89 1 1 0 130 0 by hand: a 81, 170, 171, 172, 172, 51, 51; b 82, 1, 172, 93, 14, 65, 116.
        self.assertEqual(told[-2:], (51, 116))

    def test_few_colours(self):
        cells = (RED, GREEN, BLUE, RED, BLUE, BLUE, GREEN, RED, GREEN, BLUE, RED, RED)
        expected = (80, 89, 4, 3, 1, 2) + BLUE + GREEN + RED + (11, 2, 1, 0, 2, 0, 0, 1, 2, 1, 0, 2, 2)
        self.assertEqual(file_of((4, 3, cells)), checked(expected))

    def test_places_are_in_runs_over_the_rows(self):
        picture = (3, 30, (RED,) * 45 + ((1, 90, 200, 77),) * 45)
        self.assertEqual(file_of(picture), checked((80, 89, 3, 30, 1, 1, 1, 90, 200, 77) + RED + (170, 1, 170, 0)))

    def test_both_kinds_as_long(self):
        found = 0
        for seed in range(400):
            picture = few_coloured(seed, 1 + seed % 4, 1 + seed % 3, 2 + seed % 3)
            rows, places = both_kinds(picture)
            if len(rows) == len(places):
                found += 1
                self.assertEqual(file_of(picture), rows)
        self.assertGreater(found, 3)

    def test_whichever_is_less(self):
        kinds = {0: 0, 1: 0}
        for seed in range(120):
            for many in (1, 2, 5, 300):
                picture = few_coloured(seed, 1 + seed % 9, 1 + seed % 7, many)
                told = file_of(picture)
                self.assertEqual(told, min(both_kinds(picture), key=len))
                kinds[told[4]] += 1
        self.assertGreater(min(kinds.values()), 20)

    def test_256_and_257_colours(self):
        # Scattered colours, many cells of each: by places is shorter, as long as there are places enough.
        colours = sorted(set(scattered_picture(3, 99, 4)[2]))
        for many in (255, 256, 257):
            cells = [colours[k] for k in scattered(many, 60 * 60 - many, many)] + colours[:many]
            picture = (60, 60, tuple(cells))
            told = file_of(picture)
            self.assertEqual(told[4], 1 if many <= 256 else 0)
            if many <= 256:
                self.assertEqual(told[5], many - 1)
            self.assertEqual(told, min(both_kinds(picture), key=len))
            self.assertEqual(opened(told), picture)

    def test_is_bytes(self):
        for picture in (numbered(99, 99), scattered_picture(1, 20, 30), plain_one(99, 1, RED)):
            told = file_of(picture)
            self.assertIs(type(told), tuple)
            self.assertTrue(all([type(byte) is int and 0 <= byte <= 255 for byte in told]))


class OpenedTest(Refusing):
    PICTURES = (
        (1, 1, (CLEAR,)), (1, 1, ((1, 2, 3, 4),)), plain_one(5, 3, RED), numbered(4, 5), numbered(1, 9), numbered(9, 1),
        scattered_picture(4, 6, 5), few_coloured(5, 7, 6, 3), few_coloured(6, 20, 20, 9), plain_one(99, 99, (7, 7, 7, 7)))

    def assert_opened(self, told, picture):
        found = opened(told)
        self.assertEqual(found, picture)
        self.assertTrue(is_picture(found))

    def test_a_file_that_is_written(self):
        for picture in self.PICTURES:
            self.assert_opened(file_of(picture), picture)
        for seed in range(60):
            for many in (1, 2, 9, 400):
                picture = few_coloured(seed, 1 + seed % 8, 1 + seed % 11, many)
                self.assert_opened(file_of(picture), picture)

    def test_great_ones(self):
        for picture in (numbered(99, 99), scattered_picture(9, 99, 99), few_coloured(2, 99, 99, 256)):
            self.assert_opened(file_of(picture), picture)

    def test_rows_by_any_way(self):
        for picture in self.PICTURES[:9]:
            for way in range(5):
                self.assert_opened(file_by_rows(picture, [way] * picture[1]), picture)
            for seed in range(5):
                self.assert_opened(file_by_rows(picture, scattered(seed, picture[1], 5)), picture)

    def test_runs_cut_into_any_blocks(self):
        for picture in self.PICTURES[:9]:
            ways = scattered(3, picture[1], 5)
            colours = sorted(set(picture[2]))
            for runs in (one_by_one, cut_anyhow):
                self.assert_opened(file_by_rows(picture, ways, runs), picture)
                self.assert_opened(file_by_places(picture, colours, runs=runs), picture)

    def test_blocks_across_rows(self):
        # A row's way may stand in one block with what is ahead of it and behind it.
        self.assert_opened(checked((80, 89, 1, 2, 0, 135, 0)), plain_one(1, 2, CLEAR))
        self.assert_opened(checked((80, 89, 1, 2, 0, 6, 0, 1, 2, 3, 4, 2, 0, 128, 0)), plain_one(1, 2, (1, 2, 3, 4)))
        self.assert_opened(checked((80, 89, 1, 3, 0, 140, 1)), (1, 3, ((1,) * 4,) * 3))
        self.assert_opened(checked((80, 89, 1, 3, 0, 140, 2)), (1, 3, ((2,) * 4, (4,) * 4, (6,) * 4)))

    def test_colours_in_any_order(self):
        for picture in self.PICTURES[:9]:
            colours = sorted(set(picture[2]))
            self.assert_opened(file_by_places(picture, colours[::-1]), picture)
            self.assert_opened(file_by_places(picture, colours[1:] + colours[:1]), picture)

    def test_more_colours_than_needed(self):
        picture = few_coloured(7, 4, 4, 3)
        colours = sorted(set(picture[2]))
        self.assert_opened(file_by_places(picture, [(8, 8, 8, 8)] + colours + [(9, 9, 9, 9), CLEAR]), picture)
        many = colours + [(k, 1, 2, 3) for k in range(256 - len(colours))]
        self.assert_opened(file_by_places(picture, many), picture)

    def test_a_colour_twice(self):
        picture = (2, 2, (RED, RED, BLUE, RED))
        self.assert_opened(file_by_places(picture, [RED, BLUE, RED], (0, 2, 1, 0)), picture)
        self.assert_opened(file_by_places(picture, [RED, RED, BLUE], (1, 1, 2, 0)), picture)

    def test_a_kind_that_is_longer(self):
        for picture in self.PICTURES[:9]:
            for told in both_kinds(picture):
                self.assert_opened(told, picture)

    def test_sizes(self):
        for width, height in ((1, 99), (99, 1), (99, 99)):
            self.assert_opened(checked((80, 89, width, height) + by_one_place(width, height)), plain_one(width, height, RED))
        for width, height in ((0, 1), (1, 0), (0, 0), (100, 1), (1, 100), (100, 100), (255, 1), (1, 255)):
            self.assert_refused(BadFile, opened, checked((80, 89, width, height) + by_one_place(width, height)))
            rows = in_runs((0,) * ((1 + 4 * width) * height))
            self.assert_refused(BadFile, opened, checked((80, 89, width, height, 0) + rows))

    def test_the_mark(self):
        told = file_of(plain_one(2, 2, RED))
        self.assertEqual(told[:2], (80, 89))
        for first, second in ((89, 80), (80, 80), (89, 89), (0, 0), (79, 89), (81, 89), (80, 88), (80, 90)):
            self.assert_refused(BadFile, opened, checked((first, second) + told[2:-2]))

    def test_kinds_that_are_none(self):
        for picture in (plain_one(2, 2, RED), numbered(3, 3)):
            for told in both_kinds(picture):
                for kind in (2, 3, 128, 255):
                    self.assert_refused(BadFile, opened, checked(told[:4] + (kind,) + told[5:-2]))
                self.assert_refused(BadFile, opened, checked(told[:4] + (1 - told[4],) + told[5:-2]))

    def test_ways_that_are_none(self):
        for way, fine in ((0, True), (4, True), (5, False), (6, False), (128, False), (255, False)):
            for at in range(3):
                row = [0, 1, 2, 3, 4] * 3
                row[at * 5] = way
                told = checked((80, 89, 1, 3, 0) + in_runs(tuple(row)))
                if fine:
                    self.assertTrue(is_picture(opened(told)))
                else:
                    self.assert_refused(BadFile, opened, told)

    def test_places_beyond_the_colours(self):
        picture = (2, 2, (RED, BLUE, RED, RED))
        for at in range(4):
            for place, fine in ((0, True), (1, True), (2, False), (3, False), (255, False)):
                places = [0, 1, 0, 0]
                places[at] = place
                told = file_by_places(picture, [RED, BLUE], tuple(places))
                if fine:
                    self.assertTrue(is_picture(opened(told)))
                else:
                    self.assert_refused(BadFile, opened, told)

    def test_too_few_and_too_many_bytes(self):
        picture = numbered(2, 3)
        rows = sum([(2,) + row_by(picture, y, 2) for y in range(3)], ())
        head = (80, 89, 2, 3)
        self.assert_opened(checked(head + (0,) + in_runs(rows)), picture)
        for wrong in (rows[:-1], rows + (0,), rows[:-9], rows + rows[-9:], (), rows[:1], rows * 2):
            self.assert_refused(BadFile, opened, checked(head + (0,) + in_runs(wrong)))
        colours = sum(picture[2], ())
        self.assert_opened(checked(head + (1, 5) + colours + in_runs((0, 1, 2, 3, 4, 5))), picture)
        for wrong in ((0, 1, 2, 3, 4), (0, 1, 2, 3, 4, 5, 0), (), (0,) * 12):
            self.assert_refused(BadFile, opened, checked(head + (1, 5) + colours + in_runs(wrong)))

    def test_colours_cut_short(self):
        body = (80, 89, 2, 1, 1, 1) + RED + BLUE + (1, 0, 1)
        self.assert_opened(checked(body), (2, 1, (RED, BLUE)))
        for end in range(len(body)):
            self.assert_refused(BadFile, opened, checked(body[:end]))
        for many in (2, 3, 200, 255):
            self.assert_refused(BadFile, opened, checked(body[:5] + (many,) + body[6:]))

    def test_runs_cut_short(self):
        for picture in self.PICTURES[:8]:
            for told in both_kinds(picture):
                for end in range(len(told) - 2):
                    self.assert_refused(BadFile, opened, checked(told[:end]))
                for more in ((0,), (128,), (0, 0), (128, 0), (5, 1)):
                    self.assert_refused(BadFile, opened, checked(told[:-2] + more))

    def test_a_changed_byte_is_told(self):
        for picture in self.PICTURES[:8]:
            for told in both_kinds(picture):
                self.assert_changes_told(told, picture)

    def assert_changes_told(self, told, picture):
        for at in range(len(told)):
            for byte in {(told[at] + more) % 256 for more in (1, 2, 100, 128, 250, 251, 255)}:
                changed = told[:at] + (byte,) + told[at + 1:]
                # The check goes round at 251, so it can't tell 251 more or less.
                if abs(byte - told[at]) != 251:
                    self.assert_refused(BadFile, opened, changed)
                elif at >= len(told) - 2:
                    self.assert_refused(BadFile, opened, changed)
                else:
                    self.assert_a_picture_or_refused(changed)

    def test_a_changed_byte_with_the_check_put_right(self):
        for picture in self.PICTURES[:8]:
            for told in both_kinds(picture):
                for at in range(len(told) - 2):
                    for byte in {(told[at] + more) % 256 for more in (1, 5, 127, 128, 255)}:
                        self.assert_a_picture_or_refused(checked(told[:at] + (byte,) + told[at + 1:-2]))

    def test_one_byte_less_or_more_with_the_check_put_right(self):
        for picture in self.PICTURES[:8]:
            for told in both_kinds(picture):
                for at in range(len(told) - 2):
                    self.assert_a_picture_or_refused(checked(told[:at] + told[at + 1:-2]))
                    for byte in (0, 1, 128, 255):
                        self.assert_a_picture_or_refused(checked(told[:at] + (byte,) + told[at:-2]))

    def assert_a_picture_or_refused(self, told):
        """A changed file is refused, or tells a picture of the told size."""
        try:
            found = opened(told)
        except BadFile:
            return
        self.assertTrue(is_picture(found))
        self.assertEqual(found[:2], told[2:4])

    def test_one_byte_less_or_more(self):
        for picture in self.PICTURES[:8]:
            told = file_of(picture)
            self.assert_refused(BadFile, opened, told[:-1])
            self.assert_refused(BadFile, opened, told[1:])
            self.assert_refused(BadFile, opened, told[:-2])
            self.assert_refused(BadFile, opened, told[:-1] + (told[-1] ^ 1,))
            self.assert_refused(BadFile, opened, told[:-2] + (told[-2] ^ 1, told[-1]))
            for byte in (0, 1, 80, 255):
                self.assert_refused(BadFile, opened, told + (byte,))
                self.assert_refused(BadFile, opened, (byte,) + told)

    def test_things_that_are_no_bytes(self):
        told = file_of((1, 1, ((1, 0, 2, 3),)))
        self.assertTrue({0, 1} <= set(told[:-2]))
        for at in range(len(told)):
            for thing in (-1, 256, told[at] + 256, told[at] - 256, 10 ** 30, None, "", "1", (), (1,), [1], 1.0, b"1"):
                self.assert_refused(BadFile, opened, told[:at] + (thing,) + told[at + 1:])
            if told[at] in (0, 1):
                self.assert_refused(BadFile, opened, told[:at] + (bool(told[at]),) + told[at + 1:])

    def test_truths_in_any_place(self):
        told = file_of((1, 1, (CLEAR,)))
        for at in range(len(told)):
            for truth in (True, False):
                self.assert_refused(BadFile, opened, checked(told[:at] + (truth,) + told[at + 1:-2]))

    def test_any_thing(self):
        told = file_of(plain_one(2, 2, RED))
        for thing in STRANGE + (list(told), [told], (told,), (list(told),), bytes(told), "PY", str(told), told[:2], (1, 1)):
            self.assert_refused(BadFile, opened, thing)
        for thing in ((0,), (1,), (80, 89), (80, 89, 1, 1), checked(()), checked((80,)), checked((80, 89, 1, 1))):
            self.assert_refused(BadFile, opened, thing)
        for thing in (checked((80, 89, 1, 1, 0)), checked((80, 89, 1, 1, 1)), checked((80, 89, 1, 1, 1, 0))):
            self.assert_refused(BadFile, opened, thing)
        for thing in (deep_nest(50000), told + deep_nest(50000), deep_nest(50000) + told):
            with self.assertRaises(BadFile):
                opened(thing)


if __name__ == "__main__":
    unittest.main()
