"""Promises 6.1 to 6.3 of letters, 0.3 of is_font, and 0.2 (a) and (g) as far as they speak of them."""

import unittest
from itertools import product

from helping import STRANGE, Refusing, deep_nest, scattered, spoilt_ones
from paintyard.errors import BadWay, NoSign, TooGreat, TooWide
from paintyard.letters import drawn, fair_lines, is_font, measured, plain_lines
from paintyard.pictures import is_mask

# a is 1 wide, b 2, i 3, the blank 2; two high.
SIGNS = ((" ", ("..", "..")), ("a", ("#", ".")), ("b", ("#.", ".#")), ("i", (".#.", "###")))
TIGHT = (2, 0, SIGNS)
LOOSE = (2, 1, SIGNS)
# All signs one wide without a gap: a text is as wide as it is long.
EVEN = (1, 0, tuple([(sign, ("#",) if sign != " " else (".",)) for sign in " abcdefghijklmnopqrstuvwxyz"]))
WRONG_WAYS = ("", "Left", "left ", "centre", "both", "l", "middl", "plain")


def all_breaks(words):
    """All ways to put words into lines, in order."""
    for cuts in product((False, True), repeat=len(words) - 1):
        lines = [[words[0]]]
        for cut, word in zip(cuts, words[1:]):
            if cut:
                lines.append([word])
            else:
                lines[-1].append(word)
        yield lines


def told_fair(font, row, width):
    """6.2 told anew for one row: all ways are gone through; also in how many ways it comes to least."""
    words = [word for word in row.split(" ") if word]
    if not words:
        return [""], 1
    found = []
    for lines in all_breaks(words):
        texts = [" ".join(line) for line in lines]
        rests = [width - measured(font, text) for text in texts]
        if min(rests) >= 0:
            found.append((sum(rest ** 2 for rest in rests[:-1]), [-len(line) for line in lines], texts))
    least = min(found)
    return least[2], len([one for one in found if one[0] == least[0]])


def told_plain(font, row, width):
    """The plain lines of one row told anew: a word goes into the last line as long as it is not too wide then."""
    lines = [""]
    for word in [word for word in row.split(" ") if word]:
        longer = f"{lines[-1]} {word}" if lines[-1] else word
        if measured(font, longer) <= width:
            lines[-1] = longer
        else:
            lines.append(word)
    return lines


def scattered_row(seed, many, longest, letters="ab"):
    """A row of so many words of scattered letters and lengths, with some blanks too many."""
    told = [" " * (seed % 2)]
    for at, long in enumerate(scattered(seed, many, longest)):
        told.append("".join([letters[k] for k in scattered(seed * 71 + at, long + 1, len(letters))]))
        told.append(" " * (1 + (seed + at) % 3 // 2))
    return "".join(told)


def shown(mask):
    """The rows of a mask as texts, to be compared by eye."""
    width, height, cells = mask
    marks = ["#" if cell == 255 else "." if cell == 0 else "?" for cell in cells]
    return ["".join(marks[y * width:(y + 1) * width]) for y in range(height)]


class IsFontTest(unittest.TestCase):
    def assert_told(self, truth, *things):
        for thing in things:
            self.assertIs(is_font(thing), truth, thing)

    def test_good_ones(self):
        self.assert_told(True, TIGHT, LOOSE, EVEN, (1, 0, ((" ", (".",)),)), (1, 0, ((" ", ("#",)),)))
        whole = tuple([(chr(code), ("#.#", "...")) for code in range(32, 127)])
        self.assert_told(True, (2, 3, whole))

    def test_heights(self):
        for height, fine in ((-1, False), (0, False), (1, True), (2, True), (9, True), (10, False)):
            self.assert_told(fine, (height, 0, ((" ", (".",) * max(height, 0)),)))
            self.assert_told(False, (height, 0, ()))

    def test_gaps(self):
        for gap, fine in ((-1, False), (0, True), (1, True), (9, True), (10, False), (10 ** 30, False)):
            self.assert_told(fine, (2, gap, SIGNS))

    def test_truths_are_no_whole_numbers(self):
        blank = ((" ", (".",)),)
        self.assert_told(True, (1, 1, blank), (1, 0, blank))
        self.assert_told(False, (True, 1, blank), (1, True, blank), (1, False, blank), (False, 0, ((" ", ()),)))

    def test_signs_twice_and_out_of_order(self):
        blank, a, b, i = SIGNS
        self.assert_told(True, (2, 0, (blank, b)), (2, 0, (blank,)))
        self.assert_told(False, (2, 0, (blank, a, a)), (2, 0, (blank, blank)), (2, 0, (blank, b, a)), (2, 0, (a, blank)))
        self.assert_told(False, (2, 0, (blank, a, ("a", ("##", "##")))), (2, 0, (blank, ("a", ("##", "##")), a)))
        self.assert_told(False, (2, 0, (blank, a, i, b)), (2, 0, SIGNS + (blank,)), (2, 0, SIGNS[::-1]))

    def test_signs_of_none_or_two(self):
        rows = ("#", ".")
        for sign, fine in (("c", True), ("", False), ("cc", False), ("c ", False), (" c", False)):
            self.assert_told(fine, (2, 0, SIGNS[:2] + ((sign, rows),)))
        self.assert_told(False, (2, 0, (("", rows),)), (2, 0, (("  ", rows),)), (2, 0, (("", rows),) + SIGNS))

    def test_signs_below_the_blank_and_beyond(self):
        rows = ("#", ".")
        for code, fine in ((126, True), (127, False), (128, False), (228, False), (8364, False)):
            self.assert_told(fine, (2, 0, SIGNS + ((chr(code), rows),)))
        for code in (0, 9, 10, 13, 31):
            self.assert_told(False, (2, 0, ((chr(code), rows),) + SIGNS), (2, 0, ((chr(code), rows),)))
        self.assert_told(True, (2, 0, SIGNS[:1] + (("!", rows),)))

    def test_no_blank(self):
        self.assert_told(False, (2, 0, ()), (2, 0, SIGNS[1:]), (2, 0, SIGNS[1:2]), (2, 0, (("!", ("#", "#")),)))

    def test_rows(self):
        good = (("#", "."), ("##", ".."), ("#" * 9, "." * 9), ("#.#.#.#.#", "........."))
        bad = (
            ("#",), ("#", ".", "#"), (), ("#", ".."), ("##", "."), ("", ""), ("#", ""), ("", "#"),
            ("#" * 10, "." * 10), ("#" * 9, "." * 10), ("#", "x"), ("#", " "), ("#", "-"), ("+", "."), ("#.,", "..."),
            ("#\n", ".."), "#.", ["#", "."], ("#", None), (None, "."), ("#", 1), (("#",), (".",)), ("#", ["."]), None, 2)
        for at, other in enumerate(SIGNS):
            for rows, fine in [(rows, True) for rows in good] + [(rows, False) for rows in bad]:
                self.assert_told(fine, (2, 0, SIGNS[:at] + ((other[0], rows),) + SIGNS[at + 1:]))

    def test_lists_in_place_of_tuples(self):
        self.assert_told(False, list(TIGHT), (2, 0, list(SIGNS)), (2, 0, (list(SIGNS[0]),) + SIGNS[1:]))
        self.assert_told(False, (2, 0, ((" ", ["..", ".."]),)), (2, 0, []), [2, 0, SIGNS], (2, [0], SIGNS))

    def test_spoilt_at_one_place(self):
        others = (None, True, "", "#x", -1, 10, 1.0, b"#", [], ["#"], (1, 2), {}, ("", ""), ((),), "aa", deep_nest(9))
        self.assert_told(True, (2, 0, SIGNS[:2]))
        self.assert_told(False, *spoilt_ones((2, 0, SIGNS[:2]), others))

    def test_too_few_and_too_many_things(self):
        self.assert_told(False, (2, 0), (2, 0, SIGNS, 0), (0, SIGNS), (2, SIGNS), (TIGHT,), (2, 0, ((" ",),)))
        self.assert_told(False, (2, 0, ((" ", ("#", "#"), 1),)), (2, 0, ((" ", "#", "#"),)), (2, 0, SIGNS[0]))

    def test_strange_things(self):
        self.assert_told(False, *STRANGE)
        deep = deep_nest(50000)
        self.assert_told(False, deep, (2, 0, deep), (deep, 0, SIGNS), (2, 0, SIGNS + deep), (2, 0, ((" ", deep),)))
        self.assert_told(False, (2, 0, ((deep, ("#", "#")),)), (2, 0, ((" ", (deep, deep)),)))

    def test_what_is_asked_of_is_not_changed(self):
        thing = [2, 0, [[" ", ["#", "#"]]]]
        is_font(thing)
        self.assertEqual(thing, [2, 0, [[" ", ["#", "#"]]]])


class MeasuredTest(Refusing):
    def test_nothing_is_0_wide(self):
        self.assertEqual(measured(TIGHT, ""), 0)
        self.assertEqual(measured(LOOSE, ""), 0)

    def test_one_sign(self):
        for font in (TIGHT, LOOSE, (2, 9, SIGNS)):
            self.assertEqual([measured(font, sign) for sign in " abi"], [2, 1, 2, 3])

    def test_several_signs(self):
        self.assertEqual(measured(TIGHT, "abi ab"), 11)
        self.assertEqual(measured(LOOSE, "abi ab"), 16)
        self.assertEqual(measured((2, 9, SIGNS), "aa"), 11)
        self.assertEqual(measured(LOOSE, "  "), 5)

    def test_a_font_without_height_has_no_width(self):
        # No font is like this, but nothing is refused for it.
        flat = (0, 2, ((" ", ()), ("a", ())))
        self.assertEqual(measured(flat, "aaa"), 4)
        self.assertEqual(drawn(flat, ("a", "a"), 1), (1, 1, (0,)))

    def test_signs_that_are_not_there(self):
        for text in ("c", "abc", "cab", "acb", "A", "\n", "a\nb", "\t", "a\t", "~", chr(228), "#", "."):
            for font in (TIGHT, LOOSE):
                self.assert_refused(NoSign, measured, font, text)


class LinesTest(Refusing):
    BOTH = (plain_lines, fair_lines)

    def test_blanks_are_no_words(self):
        for lines in self.BOTH:
            self.assertEqual(lines(EVEN, "  a   bc  d ", 20), ("a bc d",))
            self.assertEqual(lines(EVEN, "  a   bc  d ", 4), ("a bc", "d"))
            self.assertEqual(lines(EVEN, "   a", 1), ("a",))
            self.assertEqual(lines(EVEN, "a   ", 1), ("a",))

    def test_rows_without_words(self):
        for lines in self.BOTH:
            self.assertEqual(lines(EVEN, "", 5), ("",))
            self.assertEqual(lines(EVEN, "   ", 1), ("",))
            self.assertEqual(lines(EVEN, "\n", 5), ("", ""))
            self.assertEqual(lines(EVEN, "\n\n\n", 5), ("", "", "", ""))
            self.assertEqual(lines(EVEN, "\na\n  \n\nb c\n", 5), ("", "a", "", "", "b c", ""))
            self.assertEqual(lines(EVEN, "", 0), ("",))

    def test_line_feeds_end_a_line(self):
        for lines in self.BOTH:
            self.assertEqual(lines(EVEN, "a\nb", 9), ("a", "b"))
            self.assertEqual(lines(EVEN, "a \n b", 9), ("a", "b"))

    def test_words_just_as_wide(self):
        for lines in self.BOTH:
            self.assertEqual(lines(EVEN, "abcd ab abcd", 4), ("abcd", "ab", "abcd"))
            self.assertEqual(lines(LOOSE, "ab i", 4), ("ab", "i"))
            self.assert_refused(TooWide, lines, EVEN, "abcd ab abcd", 3)
            self.assert_refused(TooWide, lines, EVEN, "ab abcd", 3)
            self.assert_refused(TooWide, lines, LOOSE, "ab i", 3)
            self.assert_refused(TooWide, lines, EVEN, "a\nb\nccc", 2)
            self.assert_refused(TooWide, lines, EVEN, "a", 0)

    def test_the_gap_counts_on_both_sides_of_the_blank(self):
        # a is 1, the blank with its gaps 4, b 2: 7 together.
        for lines in self.BOTH:
            self.assertEqual(lines(LOOSE, "a b", 7), ("a b",))
            self.assertEqual(lines(LOOSE, "a b", 6), ("a", "b"))
            self.assertEqual(lines(TIGHT, "a b", 5), ("a b",))
            self.assertEqual(lines(TIGHT, "a b", 4), ("a", "b"))

    def test_signs_that_are_not_there(self):
        for lines in self.BOTH:
            for text in ("A", "a B", "a\nB", "a\tb", "\t", "a-b", "a\rb", "a" + chr(160) + "b", chr(8232), "\n\n~"):
                self.assert_refused(NoSign, lines, EVEN, text, 9)

    def test_no_sign_is_told_ahead_of_too_wide(self):
        for lines in self.BOTH:
            for text in ("aaaa A", "A aaaa", "aaaa\nA", "A\naaaa", "aaaaA", "a aaaa a A"):
                self.assert_refused(NoSign, lines, EVEN, text, 3)

    def test_plain_ones_take_as_many_as_go(self):
        self.assertEqual(plain_lines(EVEN, "aaa bb cc ddddd", 6), ("aaa bb", "cc", "ddddd"))
        self.assertEqual(plain_lines(EVEN, "a b c d e f", 3), ("a b", "c d", "e f"))
        self.assertEqual(plain_lines(EVEN, "a b c d e f", 11), ("a b c d e f",))
        self.assertEqual(plain_lines(EVEN, "a b c d e f", 10), ("a b c d e", "f"))

    def test_fair_ones_leave_least(self):
        # Plain would leave 0 and 4: 16; fair leaves 3 and 1: 10.
        self.assertEqual(fair_lines(EVEN, "aaa bb cc ddddd", 6), ("aaa", "bb cc", "ddddd"))
        self.assertEqual(fair_lines(EVEN, "a b c d e f", 10), ("a b c d e", "f"))

    def test_squares_are_what_counts(self):
        # 1, 1 and 4 are left, or 3, 3 and 0: 18 both, so more words stand first; by cubes it would be the other.
        self.assertEqual(fair_lines(EVEN, "a b c d eee ff ggggg", 6), ("a b c", "d eee", "ff", "ggggg"))

    def test_the_last_line_leaves_what_it_likes(self):
        self.assertEqual(fair_lines(EVEN, "aaaa bbbb c", 9), ("aaaa bbbb", "c"))
        self.assertEqual(fair_lines(EVEN, "a b", 99), ("a b",))
        self.assertEqual(fair_lines(EVEN, "aaa bb cc ddddd\naaa bb cc ddddd", 6), ("aaa", "bb cc", "ddddd") * 2)

    def test_of_several_fair_ones_the_one_with_more_words_first(self):
        # Two and one leave 0 and 3, one and two leave 3 and 0.
        self.assertEqual(fair_lines(EVEN, "aa aa aa aaaaa", 5), ("aa aa", "aa", "aaaaa"))
        self.assertEqual(fair_lines(EVEN, "aa aa aa aa aa aaaaa", 5), ("aa aa", "aa aa", "aa", "aaaaa"))

    def test_fair_ones_held_against_all_ways(self):
        several = 0
        unlike = 0
        for seed in range(90):
            row = scattered_row(seed, 2 + seed % 8, 4)
            for font, width in ((EVEN, 4), (EVEN, 7), (EVEN, 11), (TIGHT, 8), (LOOSE, 14), (LOOSE, 20)):
                told, many = told_fair(font, row, width)
                self.assertEqual(fair_lines(font, row, width), tuple(told), (row, width))
                several += many > 1
                unlike += plain_lines(font, row, width) != tuple(told)
        # The rows must be such that it matters which way is taken.
        self.assertGreater(several, 20)
        self.assertGreater(unlike, 20)

    def test_plain_ones_held_against_word_by_word(self):
        for seed in range(100):
            row = scattered_row(seed, 1 + seed % 12, 4, "abi")
            for font, width in ((TIGHT, 12), (TIGHT, 30), (LOOSE, 15), (LOOSE, 25)):
                self.assertEqual(plain_lines(font, row, width), tuple(told_plain(font, row, width)), (row, width))

    def test_lines_hold_all_words_in_order_and_none_is_too_wide(self):
        for seed in range(40):
            text = "\n".join([scattered_row(seed * 5 + k, k * 4 % 7 + 1, 5) if k % 3 else "" for k in range(5)])
            for lines in self.BOTH:
                for font, width in ((EVEN, 6), (LOOSE, 15), (TIGHT, 99)):
                    told = lines(font, text, width)
                    self.assertEqual(" ".join(told).split(), text.split())
                    self.assertTrue(all([measured(font, line) <= width for line in told]))
                    self.assertTrue(all([line == " ".join(line.split()) for line in told]))
                    each = [lines(font, row, width) for row in text.split("\n")]
                    self.assertEqual(told, tuple([line for row in each for line in row]))

    def test_many_words(self):
        row = " ".join(["ab"] * 3000)
        for lines in self.BOTH:
            self.assertEqual(lines(EVEN, row, 5), ("ab ab",) * 1500)
            self.assertEqual(lines(EVEN, row, 9000), (row,))


class DrawnTest(Refusing):
    def test_one_row(self):
        self.assertEqual(drawn(TIGHT, ("abi",), 6), (6, 2, (255, 255, 0, 0, 255, 0, 0, 0, 255, 255, 255, 255)))
        self.assertEqual(shown(drawn(TIGHT, ("abi",), 6)), ["##..#.", "..####"])
        self.assertEqual(shown(drawn(LOOSE, ("abi",), 8)), ["#.#...#.", "...#.###"])
        self.assertEqual(shown(drawn(LOOSE, ("a b",), 7)), ["#....#.", "......#"])

    def test_a_blank_may_have_marks(self):
        font = (1, 2, ((" ", ("#",)), ("a", ("##",))))
        self.assertEqual(shown(drawn(font, ("a a",), 9)), ["##..#..##"])

    def test_ways_with_room(self):
        self.assertEqual(shown(drawn(TIGHT, ("b",), 5)), ["#....", ".#..."])
        self.assertEqual(shown(drawn(TIGHT, ("b",), 5, way="left")), ["#....", ".#..."])
        self.assertEqual(shown(drawn(TIGHT, ("b",), 5, way="right")), ["...#.", "....#"])
        self.assertEqual(shown(drawn(TIGHT, ("b",), 5, way="middle")), [".#...", "..#.."])
        self.assertEqual(shown(drawn(TIGHT, ("b",), 6, way="middle")), ["..#...", "...#.."])

    def test_ways_without_room(self):
        for way in ("left", "right", "middle"):
            self.assertEqual(shown(drawn(TIGHT, ("b",), 2, way=way)), ["#.", ".#"])
        self.assertEqual(shown(drawn(TIGHT, ("b",), 3, way="middle")), ["#..", ".#."])

    def test_rows_with_one_cell_between(self):
        self.assertEqual(shown(drawn(TIGHT, ("a", "b", "i"), 4, way="right")), [
            "...#", "....", "....", "..#.", "...#", "....", "..#.", ".###"])
        self.assertEqual(shown(drawn(TIGHT, ("i", "a"), 4, way="middle")), [".#..", "###.", "....", ".#..", "...."])

    def test_empty_rows(self):
        for way in ("left", "right", "middle"):
            self.assertEqual(drawn(TIGHT, ("",), 3, way=way), (3, 2, (0,) * 6))
            self.assertEqual(shown(drawn(TIGHT, ("", "i", ""), 3, way=way)), [
                "...", "...", "...", ".#.", "###", "...", "...", "..."])

    def test_at_most_99_high(self):
        self.assertEqual(drawn(EVEN, ("a",) * 50, 1)[:2], (1, 99))
        self.assert_refused(TooGreat, drawn, EVEN, ("a",) * 51, 1)
        nine = (9, 0, ((" ", (".",) * 9), ("a", ("#",) * 9)))
        self.assertEqual(drawn(nine, ("a",) * 10, 1)[1], 99)
        self.assert_refused(TooGreat, drawn, nine, ("a",) * 11, 1)
        self.assertEqual(drawn(TIGHT, ("",) * 33, 1)[1], 98)
        self.assert_refused(TooGreat, drawn, TIGHT, ("",) * 34, 1)

    def test_words_that_are_no_ways(self):
        for way in WRONG_WAYS + (None, 0, ("left",), ["left"]):
            self.assert_refused(BadWay, drawn, TIGHT, ("a",), 5, way=way)

    def test_signs_that_are_not_there(self):
        for rows in (("c",), ("a", "c"), ("a\nb",), ("", "\n"), ("c", "a")):
            self.assert_refused(NoSign, drawn, TIGHT, rows, 9)

    def test_rows_that_are_too_wide(self):
        for rows in (("bb",), ("a", "bb"), ("bb", "a"), ("", "aaaa")):
            self.assert_refused(TooWide, drawn, TIGHT, rows, 3)
            self.assertTrue(is_mask(drawn(TIGHT, rows, 4)))
        self.assert_refused(TooWide, drawn, LOOSE, ("bb",), 4)

    def test_the_first_told_refusal_is_raised(self):
        many = ("a",) * 60
        self.assert_refused(BadWay, drawn, TIGHT, ("c", "bb") + many, 1, way="up")
        self.assert_refused(BadWay, drawn, TIGHT, ("c",), 9, way="up")
        self.assert_refused(BadWay, drawn, TIGHT, ("bb",), 1, way="up")
        self.assert_refused(BadWay, drawn, TIGHT, many, 1, way="up")
        self.assert_refused(NoSign, drawn, TIGHT, ("bb", "c") + many, 1)
        self.assert_refused(NoSign, drawn, TIGHT, ("bb", "c"), 1)
        self.assert_refused(NoSign, drawn, TIGHT, many + ("c",), 1)
        self.assert_refused(TooWide, drawn, TIGHT, many + ("bb",), 1)

    def test_all_cells_told_anew(self):
        rows = ("ab i", "", " ia", "bab")
        for font in (TIGHT, LOOSE):
            for width in (15, 16, 17, 99):
                for way in ("left", "right", "middle"):
                    mask = drawn(font, rows, width, way=way)
                    self.assertTrue(is_mask(mask))
                    self.assertEqual(mask[:2], (width, 11))
                    self.assertEqual(list(mask[2]), self.told_cells(font, rows, width, way))

    def told_cells(self, font, rows, width, way):
        """6.3 told anew, sign by sign."""
        height, gap, signs = font
        cells = [0] * (width * (len(rows) * (height + 1) - 1))
        for at, row in enumerate(rows):
            left = width - measured(font, row)
            x = {"left": 0, "right": left, "middle": left // 2}[way]
            for sign in row:
                marks = dict(signs)[sign]
                for y, line in enumerate(marks):
                    for k, mark in enumerate(line):
                        if mark == "#":
                            cells[(at * (height + 1) + y) * width + x + k] = 255
                x += len(marks[0]) + gap
        return cells

    def test_what_is_drawn_is_as_wide_as_measured(self):
        # Signs with marks all over show how far a row goes.
        font = (1, 0, ((" ", ("##",)), ("a", ("###",)), ("b", ("#",))))
        for text in ("a", "ab", "a b", "bb aa", " "):
            wide = measured(font, text)
            self.assertEqual(drawn(font, (text,), wide), (wide, 1, (255,) * wide))
            self.assertEqual(sum(drawn(font, (text,), 20, way="middle")[2]), 255 * wide)
            self.assert_refused(TooWide, drawn, font, (text,), wide - 1)

    def test_lines_are_drawn(self):
        text = "ab a b iab a a b a i"
        for lines in (plain_lines, fair_lines):
            self.assertTrue(is_mask(drawn(LOOSE, lines(LOOSE, text, 14), 14, way="middle")))


if __name__ == "__main__":
    unittest.main()
