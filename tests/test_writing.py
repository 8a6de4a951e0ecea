"""Promise 12.1 of writings, and 0.2 (j) as far as it speaks of studios that are read."""

import unittest

from helping import (
    BENT, GREEN, MODES, PICTURES, RED, SQUARE, WORDS, Refusing, busy_studio, checked, do_deed, one_by_one, scattered,
    scattered_deed, scattered_picture, state_of)
from paintyard.errors import NoText
from paintyard.files import file_of, in_runs, opened
from paintyard.pictures import plain_one
from paintyard.studios import Studio
from paintyard.writing import hex_text, read_hex, read_studio, studio_text

ONE = plain_one(1, 1, RED)


def file_hex(picture):
    """The hex text of a picture's file, told by Python's own means."""
    return bytes(file_of(picture)).hex()


def studio_of(*deeds, undone=0, size=(4, 3)):
    """A studio with these deeds done, the last ones undone."""
    studio = Studio(*size)
    for word, *values in deeds:
        do_deed(studio, (word, tuple(values)))
    for k in range(undone):
        studio.undo()
    return studio


def other_files(picture):
    """Files of a picture that are opened to it, but that file_of does not write."""
    width, height, cells = picture
    head = (80, 89, width, height, 1)
    colours = sorted(set(cells))
    places = tuple([colours.index(cell) for cell in cells])
    twice = colours + colours[:1]
    return (
        checked(head + (len(colours) - 1,) + sum(colours, ()) + one_by_one(places)),
        checked(head + (len(colours),) + sum(twice, ()) + in_runs(places)))


ADD_A = ("add", "a", ONE, 0, 0)
ADD_B = ("add", "b", PICTURES[0], -3, 17)
EACH = (
    ADD_A, ADD_B, ("add", "abcdefgh", PICTURES[1], 999, -999), ("move", "b", -1, 0), ("move", "a", 0, 12),
    ("fade", "a", 0), ("fade", "a", 255), ("blend", "a", "apart"), ("show", "b", False), ("show", "b", True),
    ("lift", "a", 2), ("gather", ("b",), "m"), ("gather", ("m", "a"), "n"), ("open_up", "n"), ("melt", "m"),
    ("paint", "a", SQUARE, (1, 2, 30, 255), "odd", "plain"), ("paint", "a", BENT, (0, 16, 255, 9), "wound", "less"),
    ("paint", "a", (), GREEN, "odd", "add"), ("filter", "a", "middled"), ("drop", "m"))
EACH_LINES = (
    "add a " + file_hex(ONE) + " 0 0", "add b " + file_hex(PICTURES[0]) + " -3 17",
    "add abcdefgh " + file_hex(PICTURES[1]) + " 999 -999", "move b -1 0", "move a 0 12", "fade a 0", "fade a 255",
    "blend a apart", "show b no", "show b yes", "lift a 2", "gather b m", "gather m+a n", "open_up n", "melt m",
    "paint a 0,0;8,0;8,8;0,8 01021eff odd plain", "paint a 2,2;9,-3,12,6;-4,9/1,1 0010ff09 wound less",
    "paint a - 00ff00ff odd add", "filter a middled", "drop m")


class HexTest(Refusing):
    def test_all_bytes(self):
        told = tuple(range(256))
        self.assertEqual(hex_text(told), bytes(told).hex())
        self.assertEqual(read_hex(bytes(told).hex()), told)
        self.assertEqual(hex_text((0, 1, 9, 10, 15, 16, 171, 255)), "0001090a0f10abff")
        self.assertEqual(read_hex("0001090a0f10abff"), (0, 1, 9, 10, 15, 16, 171, 255))

    def test_nothing(self):
        self.assertEqual(hex_text(()), "")
        self.assertEqual(read_hex(""), ())

    def test_there_and_back(self):
        for seed in range(20):
            told = tuple(scattered(seed, 7 * seed, 256))
            self.assertEqual(read_hex(hex_text(told)), told)

    def test_no_text(self):
        wrong = (
            "0", "000", "0001f", "A0", "0A", "aB", "FF", "g0", "0g", " 00", "00 ", "0 00", "00 00", " ", "  ", "0x", "0x00",
            "+1", "-1", "1_", "\n", "00\n", "\n00", "zz", chr(0x661) * 2, chr(0xFF10) * 2, chr(0xB2) + "0", "..", "0.", "--")
        for text in wrong:
            self.assert_refused(NoText, read_hex, text)


class StudioTextTest(Refusing):
    def test_an_empty_studio(self):
        self.assertEqual(studio_text(Studio(4, 3)), "studio 4 3\n")
        self.assertEqual(studio_text(Studio(99, 1)), "studio 99 1\n")

    def test_each_deed(self):
        for many in range(len(EACH) + 1):
            text = "".join([line + "\n" for line in ("studio 4 3",) + EACH_LINES[:many]])
            self.assertEqual(studio_text(studio_of(*EACH[:many])), text)

    def test_undone_ones(self):
        for undone in range(len(EACH) + 1):
            lines = ["studio 4 3", *EACH_LINES[:len(EACH) - undone]]
            lines += ["? " + line for line in EACH_LINES[len(EACH) - undone:]]
            self.assertEqual(studio_text(studio_of(*EACH, undone=undone)), "\n".join(lines) + "\n")

    def test_every_mode_and_word(self):
        deeds = [("blend", "a", mode) for mode in MODES] + [("filter", "a", word) for word in WORDS]
        lines = [" ".join(deed) for deed in deeds]
        self.assertEqual(studio_text(studio_of(ADD_A, *deeds)).split("\n")[2:-1], lines)

    def test_nothing_is_changed(self):
        studio = studio_of(*EACH, undone=3)
        before = state_of(studio)
        self.assertEqual(studio_text(studio), studio_text(studio))
        self.assertEqual(state_of(studio), before)


class ReadStudioTest(Refusing):
    def assert_read(self, studio):
        """What is read is equal, has the same text, and goes on alike."""
        text = studio_text(studio)
        again = read_studio(text)
        self.assertIsInstance(again, Studio)
        self.assertTrue(again == studio)
        self.assertEqual(state_of(again), state_of(studio))
        self.assertEqual(studio_text(again), text)
        for one in (again, studio):
            while one.undone():
                one.redo()
        self.assertEqual(state_of(again), state_of(studio))
        while studio.deeds():
            studio.undo()
            again.undo()
            self.assertEqual(state_of(again), state_of(studio))
        for one in (again, studio):
            one.add("zzz", PICTURES[2], x=1)
        self.assertTrue(again == studio)

    def test_each_deed(self):
        for many in range(len(EACH) + 1):
            self.assert_read(studio_of(*EACH[:many]))

    def test_undone_ones(self):
        for undone in range(len(EACH) + 1):
            self.assert_read(studio_of(*EACH, undone=undone))

    def test_sizes(self):
        for size in ((1, 1), (99, 99), (1, 99), (99, 1)):
            self.assert_read(studio_of(ADD_A, ("melt", "a"), size=size))

    def test_a_busy_one(self):
        deeds = busy_studio()[1]
        for many in (3, 9, 14, 18):
            studio = busy_studio(many)[0]
            self.assert_read(studio)
        self.assertEqual(len(deeds), 18)

    def test_pictures_of_both_kinds(self):
        for picture in (scattered_picture(1, 9, 9), scattered_picture(2, 20, 20, 2), plain_one(99, 99, GREEN)):
            self.assert_read(studio_of(("add", "a", picture, 1, 1)))

    def test_scattered_deeds(self):
        for seed in range(8):
            studio = Studio(4, 3)
            for n in scattered(seed + 50, 60, 10 ** 6):
                try:
                    do_deed(studio, scattered_deed(n))
                except ValueError:
                    pass
            self.assert_read(studio)

    def test_what_is_read_is_its_own(self):
        text = studio_text(studio_of(*EACH))
        one, other = read_studio(text), read_studio(text)
        one.undo()
        self.assertEqual(studio_text(other), text)


class NoTextTest(Refusing):
    GOOD = studio_text(studio_of(*EACH, undone=4))

    def assert_no_text(self, *texts):
        for text in texts:
            self.assert_refused(NoText, read_studio, text)

    def assert_no_text_or_its_own(self, text):
        """A spoilt text is refused, unless it is the text of some studio, which is told then."""
        try:
            studio = read_studio(text)
        except NoText:
            return 0
        self.assertEqual(studio_text(studio), text)
        return 1

    def test_the_good_one_is_one(self):
        self.assertEqual(studio_text(read_studio(self.GOOD)), self.GOOD)

    def test_no_studio_at_all(self):
        self.assert_no_text("", "\n", " ", "studio", "studio\n", "abc", "\n\n", "?", "? ", "-", "studio 4 3", " studio 4 3\n")

    def test_first_lines(self):
        self.assert_no_text(*["studio " + head + "\n" for head in (
            "4", "4 3 2", "4  3", " 4 3", "4 3 ", "x 3", "4 x", "+4 3", "4 +3", "04 3", "4 03", "-0 3", "0 3", "4 0", "-4 3",
            "4 -3", "100 3", "4 100", "4.0 3", "4,3", "4_0 3", "4\t3", "", " ", "0x4 3", chr(0x664) + " 3", "9" * 5000 + " 3")])
        self.assert_no_text("Studio 4 3\n", "studios 4 3\n", "4 3\n", "? studio 4 3\n", "studio 4 3\nstudio 4 3\n")

    def test_line_feeds(self):
        lines = self.GOOD.split("\n")[:-1]
        self.assert_no_text(self.GOOD[:-1], self.GOOD + "\n", "\n" + self.GOOD, self.GOOD + " ", self.GOOD + "?")
        for at in range(len(lines)):
            self.assert_no_text("\n".join(lines[:at] + [""] + lines[at:]) + "\n")
            self.assert_no_text("\n".join(lines[:at] + [lines[at] + "\r"] + lines[at + 1:]) + "\n")

    def test_blanks(self):
        lines = self.GOOD.split("\n")[:-1]
        for at, line in enumerate(lines):
            words = line.split(" ")
            for k in range(len(words) + 1):
                # One blank more at each place, also at both ends.
                spoilt = " ".join(words[:k] + [""] + words[k:])
                self.assert_no_text("\n".join(lines[:at] + [spoilt] + lines[at + 1:]) + "\n")
            for other in ("\t", "", "\n", "  "):
                spoilt = line.replace(" ", other, 1)
                self.assert_no_text("\n".join(lines[:at] + [spoilt] + lines[at + 1:]) + "\n")

    def test_rows_left_out_twice_and_exchanged(self):
        lines = self.GOOD.split("\n")[:-1]
        texts = []
        for at in range(len(lines)):
            texts.append(lines[:at] + lines[at + 1:])
            texts.append(lines[:at] + lines[at:at + 1] + lines[at:])
            for other in range(at):
                exchanged = list(lines)
                exchanged[at], exchanged[other] = lines[other], lines[at]
                texts.append(exchanged)
        told = sum([self.assert_no_text_or_its_own("\n".join(rows) + "\n") for rows in texts])
        # Some deeds can be left out, done twice or in another order; not the first line, nor what others need.
        self.assertGreater(told, 10)
        self.assertGreater(len(texts) - told, 100)
        self.assert_no_text("\n".join(lines[1:]) + "\n", "\n".join(lines[:1] + lines[2:]) + "\n")
        self.assert_no_text("\n".join(lines[:2] + lines[1:]) + "\n")

    def test_words_left_out_put_in_and_exchanged(self):
        lines = self.GOOD.split("\n")[:-1]
        more = ("a", "b", "m", "0", "-1", "yes", "plain", "odd", "-", "0,0", "?", "add", "drop", "00ff00ff", "ff")
        for at, line in enumerate(lines):
            words = line.split(" ")
            for k in range(len(words)):
                self.assert_spoilt(lines, at, words[:k] + words[k + 1:])
                for word in more:
                    self.assert_no_text("\n".join(lines[:at] + [" ".join(words[:k + 1] + [word] + words[k + 1:])]
                                                  + lines[at + 1:]) + "\n")
                    self.assert_spoilt(lines, at, words[:k] + [word] + words[k + 1:])
                for other in range(k):
                    exchanged = list(words)
                    exchanged[k], exchanged[other] = words[other], words[k]
                    self.assert_spoilt(lines, at, exchanged)

    def assert_spoilt(self, lines, at, words):
        self.assert_no_text_or_its_own("\n".join(lines[:at] + [" ".join(words)] + lines[at + 1:]) + "\n")

    def test_words_that_are_no_deeds(self):
        start = studio_text(studio_of(ADD_A))
        for line in ("undo", "redo", "picture", "do a", "Fade a 1", "fades a 1", "layers", "hit 0 0", "open a", "init 1 1",
                     "size", "fade", "fade a", "fade a 1 1", "drop", "drop a a", "melt", "show a", "?", "? ", "?fade a 1",
                     "?  fade a 1", "? ? fade a 1", "a", "__init__ 1 1"):
            self.assert_no_text(start + line + "\n")

    def test_numbers(self):
        start = studio_text(studio_of(ADD_A))
        for number in ("+1", "01", "00", "-0", "-01", "--1", "1.0", "1e1", "", "x", "1_0", "0x1", "one", chr(0x661), "1-", "-",
                       "9" * 5000):
            self.assert_no_text(start + f"fade a {number}\n", start + f"lift a {number}\n", start + f"move a {number} 1\n")
            self.assert_no_text(start + f"move a 1 {number}\n", start + f"add b {file_hex(ONE)} {number} 0\n")
            self.assert_no_text(start + f"add b {file_hex(ONE)} 0 {number}\n", start + f"? fade a {number}\n")
        self.assertEqual(read_studio(start + "move a -1 0\n"), studio_of(ADD_A, ("move", "a", -1, 0)))

    def test_truths(self):
        start = studio_text(studio_of(ADD_A))
        for word in ("Yes", "NO", "true", "True", "1", "0", "y", "", "yes,no", "on"):
            self.assert_no_text(start + f"show a {word}\n")

    def test_names(self):
        start = studio_text(studio_of(ADD_A, ADD_B))
        for names in ("a+", "+a", "a++b", "+", "a+b+", "a,b", "a+c", "c", "A", "a+a", "a+b+a", "a-b"):
            self.assert_no_text(start + f"gather {names} m\n")
        self.assert_no_text(start + "gather a+b a\n", start + "gather a+b M\n", start + "gather a b m\n")
        self.assertEqual(read_studio(start + "gather b+a m\n").deeds()[-1], ("gather", (("b", "a"), "m")))

    def test_lots_of_no_names(self):
        self.assert_no_text("studio 4 3\ngather  m\n", "studio 4 3\n? gather  m\n")
        start = studio_text(studio_of(ADD_A, ADD_B))
        for line in ("gather  m\n", "gather m\n", "gather   m\n", "gather - m\n", "gather () m\n", "gather  a\n", "gather  \n"):
            self.assert_no_text(start + line, start + "? " + line, start + line + "show a no\n", start + line + "? drop a\n")
            self.assert_no_text(start + "show a no\n" + line, start + "? show a no\n? " + line + "? drop a\n")
        for line in ("drop m", "open_up m", "melt m", "move m 5000 0", "fade m 1", "gather m n", "gather a+m n", "lift m 0"):
            self.assert_no_text(start + f"gather  m\n{line}\n", start + f"gather  m\n? {line}\n")
            self.assert_no_text(start + f"? gather  m\n? {line}\n")

    def test_lots_of_one_or_more_names(self):
        start = studio_text(studio_of(ADD_A, ADD_B))
        for names, told in (("a", ("a",)), ("b", ("b",)), ("a+b", ("a", "b")), ("b+a", ("b", "a"))):
            deed = ("gather", told, "m")
            self.assertEqual(read_studio(start + f"gather {names} m\n"), studio_of(ADD_A, ADD_B, deed))
            self.assertEqual(read_studio(start + f"? gather {names} m\n"), studio_of(ADD_A, ADD_B, deed, undone=1))

    def test_paths(self):
        start = studio_text(studio_of(ADD_A))
        for path in ("", "--", "/", ";", ",", "0", "0,0,0", "0,0,0,0", "0,0;", ";0,0", "0,0/", "/0,0", "0,0//0,0", "0,0;;0,0",
                     "0,0;0,0,0,0,0,0", "0,0;0", "0,0;0,0,0", "1000,0", "0,-1000", "0,0;1000,0,0,0", "0,0;0,0,0,1000",
                     "0,0/0,0,1,1", "+1,0", "01,0", "-0,0", "0,x", "0.0", "-/0,0", "0,0/-", "(0,0)", "0,0,"):
            self.assert_no_text(start + f"paint a {path} 00ff00ff odd plain\n")
        for path in ("-", "0,0", "-999,999", "0,0;1,2,3,4", "0,0/0,0"):
            self.assertEqual(studio_text(read_studio(start + f"paint a {path} 00ff00ff odd plain\n")).split(" ")[-4], path)

    def test_colours_rules_and_modes(self):
        start = studio_text(studio_of(ADD_A))
        for colour in ("", "00ff00f", "00ff00", "00ff00ff0", "00ff00ff00", "00FF00FF", "red", "0,0,0,0", "-", "00ff00fg"):
            self.assert_no_text(start + f"paint a 0,0 {colour} odd plain\n")
        for rest in ("even plain", "odd none", "plain odd", "Odd plain", "odd Plain", "odd", "wound"):
            self.assert_no_text(start + f"paint a 0,0 00ff00ff {rest}\n")

    def test_files(self):
        good = file_hex(PICTURES[0])
        line = "studio 4 3\nadd a {} 0 0\n"
        self.assertEqual(read_studio(line.format(good)), studio_of(("add", "a", PICTURES[0], 0, 0)))
        for at in range(0, len(good), 2):
            byte = int(good[at:at + 2], 16)
            for changed in ((byte + 1) % 256, byte ^ 128):
                self.assert_no_text(line.format(good[:at] + f"{changed:02x}" + good[at + 2:]))
        self.assert_no_text(*[line.format(text) for text in (good.upper(), good[:-1], good[2:], good + "00", "", "-", "00", "x")])

    def test_files_that_would_not_be_written(self):
        line = "studio 4 3\nadd a {} 0 0\n"
        for picture in (plain_one(2, 2, RED), PICTURES[0], scattered_picture(2, 9, 9, 2)):
            written = file_of(picture)
            for told in other_files(picture):
                self.assertEqual(opened(told), picture)
                self.assertNotEqual(told, written)
                self.assert_no_text(line.format(bytes(told).hex()))
            self.assertEqual(len(read_studio(line.format(bytes(written).hex()))), 1)

    def test_deeds_that_would_be_refused(self):
        start = studio_text(studio_of(ADD_A, ADD_B, ("gather", ("b",), "m")))
        one = file_hex(ONE)
        for line in (
                f"add a {one} 0 0", f"add b {one} 0 0", f"add m {one} 0 0", f"add A {one} 0 0", f"add c {one} 1000 0",
                f"add c {one} 0 -1000", "drop b", "drop c", "move b 1 1", "move a 1000 0", "move m 0 1000", "fade a 256",
                "fade a -1", "fade c 1", "blend a none", "show c yes", "lift a 2", "lift a -1", "gather c n", "gather b n",
                "gather a A", "gather a m", "gather a b", "open_up a", "open_up b", "melt b", "filter a none", "filter m grey",
                "paint m - 00ff00ff odd plain", "paint c - 00ff00ff odd plain", "paint a - 00ff00ff even plain"):
            self.assert_no_text(start + line + "\n", start + "? " + line + "\n")
            self.assert_no_text(start + "? fade a 1\n? " + line + "\n")

    def test_a_done_line_behind_an_undone_one(self):
        start = studio_text(studio_of(ADD_A))
        self.assert_no_text(start + "? fade a 1\nfade a 1\n", start + "? fade a 1\nfade a 2\n? fade a 3\n")
        self.assert_no_text(start.replace("add", "? add") + "fade a 1\n")
        studio = read_studio(start + "fade a 1\n? fade a 2\n? fade a 3\n")
        self.assertEqual(studio.undone(), (("fade", ("a", 2)), ("fade", ("a", 3))))

    def test_each_sign_changed_left_out_or_put_in(self):
        text = studio_text(studio_of(ADD_A, ("fade", "a", 12), ("paint", "a", SQUARE, GREEN, "odd", "add"), undone=1))
        told = 0
        for at in range(len(text)):
            told += self.assert_no_text_or_its_own(text[:at] + text[at + 1:])
            for sign in "a0-+ \n?,;/f":
                told += self.assert_no_text_or_its_own(text[:at] + sign + text[at + 1:])
                told += self.assert_no_text_or_its_own(text[:at] + sign + text[at:])
        self.assertGreater(told, 50)


if __name__ == "__main__":
    unittest.main()
