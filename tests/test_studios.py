"""Promises 11.1 to 11.3 of studios, and 0.2 (a), (b) and (j), 0.3 and 0.4 as far as they speak of them."""

import unittest

from helping import (
    BENT, BLUE, CLEAR, GREEN, MODES, PICTURES, RED, SQUARE, STRANGE, WHITE, WORDS, Refusing, busy_studio, do_deed,
    numbered, scattered, scattered_deed, scattered_picture, state_of)
from paintyard.colours import grey
from paintyard.errors import (
    BadMode, BadName, BadPart, BadPicture, BadRule, BadWord, NoName, NoPlace, Nothing, PaintError, Taken, TooGreat)
from paintyard.filters import curved, evened, middled
from paintyard.layers import flattened, hit_at, is_layer
from paintyard.paths import covered, painted
from paintyard.pictures import is_picture, mirrored, plain_one, turned
from paintyard.studios import Studio

ONE = plain_one(1, 1, RED)
WRONG_NAMES = ("", "abcdefghi", "A", "aB", "a1", "a b", " a", "a ", "a\n", "a_b", "`", "{", "+", chr(228))
NEW = (255, "plain", True)


def leaf(name, picture=ONE, x=0, y=0, look=NEW):
    """A leaf of which most is left out."""
    return ("leaf", name, picture, x, y) + look


def lot(name, layers, look=NEW):
    """A lot of which most is left out."""
    return ("lot", name, layers) + look


def studio_with(*names, width=4, height=3):
    """A studio with a leaf of these names each, its picture and place told by where it stands."""
    studio = Studio(width, height)
    for at, name in enumerate(names):
        studio.add(name, PICTURES[at % 4], x=at, y=-at)
    return studio


def names_of(studio):
    """The names of the layers outside of lots, from below."""
    return [layer[1] for layer in studio.layers()]


def shadow_of(studio):
    """A second studio that came to be by the same deeds."""
    again = Studio(*[int(word) for word in str(studio).replace(",", "").split()[:3:2]])
    done, undone = studio.deeds(), studio.undone()
    for deed in done + undone:
        do_deed(again, deed)
    for k in undone:
        again.undo()
    return again


class StudioTest(Refusing):
    def assert_deed_refused(self, studio, refusal, word, *values, **more):
        """A deed is refused as it should be, and changes nothing of the studio, not even what can be done again."""
        before = state_of(studio)
        self.assert_refused(refusal, getattr(studio, word), *values, **more)
        self.assertEqual(state_of(studio), before)

    def assert_done(self, studio, deed, layers):
        """The last deed is told as it was done, and came to these layers; undone and done again likewise."""
        self.assertEqual(studio.deeds()[-1], deed)
        self.assertEqual(studio.layers(), layers)
        self.assertTrue(all([is_layer(layer) for layer in layers]))
        self.assertEqual(studio.picture(), flattened(*studio.picture()[:2], layers))
        self.assertTrue(is_picture(studio.picture()))
        after = state_of(studio)
        studio.undo()
        self.assertEqual(studio.undone()[0], deed)
        studio.redo()
        self.assertEqual(state_of(studio), after)


class EmptyStudioTest(StudioTest):
    def test_no_layer(self):
        studio = Studio(5, 2)
        self.assertEqual(state_of(studio), ((), plain_one(5, 2, CLEAR), (), (), 0, "5 by 2, 0 layers"))
        self.assertEqual(studio.hit(0, 0), ())

    def test_sizes(self):
        for width, height in ((1, 1), (99, 99), (1, 99), (99, 1)):
            self.assertEqual(Studio(width, height).picture(), plain_one(width, height, CLEAR))
            self.assertEqual(str(Studio(width, height)), f"{width} by {height}, 0 layers")

    def test_nothing_to_undo_or_redo(self):
        studio = Studio(2, 2)
        self.assert_deed_refused(studio, Nothing, "undo")
        self.assert_deed_refused(studio, Nothing, "redo")


class AddTest(StudioTest):
    def test_on_top(self):
        studio = Studio(4, 3)
        self.assertIsNone(studio.add("a", ONE))
        self.assert_done(studio, ("add", ("a", ONE, 0, 0)), (leaf("a"),))
        studio.add("b", PICTURES[0], x=2, y=-1)
        self.assert_done(studio, ("add", ("b", PICTURES[0], 2, -1)), (leaf("a"), leaf("b", PICTURES[0], 2, -1)))
        studio.add("abcdefgh", PICTURES[1], y=7)
        self.assertEqual(studio.deeds()[-1], ("add", ("abcdefgh", PICTURES[1], 0, 7)))
        studio.add("z", PICTURES[1], x=-7)
        self.assertEqual(studio.deeds()[-1], ("add", ("z", PICTURES[1], -7, 0)))
        self.assertEqual(names_of(studio), ["a", "b", "abcdefgh", "z"])

    def test_places_at_their_ends(self):
        for x, y in ((999, 999), (-999, -999), (999, -999), (0, 999)):
            studio = Studio(2, 2)
            studio.add("a", ONE, x=x, y=y)
            self.assertEqual(studio.layers(), (leaf("a", ONE, x, y),))
        for x, y in ((1000, 0), (0, 1000), (-1000, 0), (0, -1000), (1000, -1000), (10 ** 30, 0)):
            self.assert_deed_refused(Studio(2, 2), TooGreat, "add", "a", ONE, x=x, y=y)

    def test_bad_names(self):
        for name in WRONG_NAMES:
            self.assert_deed_refused(studio_with("b"), BadName, "add", name, ONE)
        for name in ("a", "z", "abcdefgh"):
            Studio(1, 1).add(name, ONE)

    def test_taken(self):
        studio = studio_with("a", "b")
        self.assert_deed_refused(studio, Taken, "add", "a", ONE)
        self.assert_deed_refused(studio, Taken, "add", "b", ONE)

    def test_taken_in_lots(self):
        studio = studio_with("a", "b", "c")
        studio.gather(("a", "b"), "m")
        studio.gather(("m",), "n")
        studio.show("n", False)
        for name in ("a", "b", "c", "m", "n"):
            self.assert_deed_refused(studio, Taken, "add", name, ONE)
        studio.drop("n")
        for name in ("a", "b", "m", "n"):
            studio.add(name, ONE)

    def test_bad_pictures(self):
        wrong = STRANGE + (
            (1, 1, (7,)), (0, 0, ()), (100, 1, (RED,) * 100), (2, 2, (RED,) * 3), (1, 1, ((0, 0, 0, 256),)), [1, 1, (RED,)],
            (1, 1, [RED]), (1, True, (RED,)), (1, 1, ((True, 0, 0, 0),)))
        for picture in wrong:
            self.assert_deed_refused(studio_with("b"), BadPicture, "add", "a", picture)

    def test_the_first_told_is_raised(self):
        studio = studio_with("a")
        self.assert_deed_refused(studio, BadName, "add", "A", None, x=1000)
        self.assert_deed_refused(studio, BadName, "add", "A", ONE, x=1000)
        self.assert_deed_refused(studio, BadName, "add", "A", None)
        self.assert_deed_refused(studio, Taken, "add", "a", None, y=-1000)
        self.assert_deed_refused(studio, Taken, "add", "a", ONE, y=-1000)
        self.assert_deed_refused(studio, Taken, "add", "a", None)
        self.assert_deed_refused(studio, BadPicture, "add", "b", None, y=1000)


class NoNameTest(StudioTest):
    """All deeds of one layer but add: no layer outside of lots has the name."""

    GOOD = (
        ("drop",), ("move", 1, 1), ("fade", 9), ("blend", "add"), ("show", False), ("lift", 0), ("open_up",), ("melt",),
        ("paint", SQUARE, RED), ("filter", "grey"))
    BAD = (
        ("move", 10 ** 6, 0), ("fade", 256), ("blend", "none"), ("lift", -1), ("lift", 99), ("filter", "none"))

    def test_names_that_there_are_not(self):
        for word, *values in self.GOOD + self.BAD:
            for studio in (Studio(2, 2), studio_with("a", "b")):
                for name in ("c", "ab", "") + WRONG_NAMES[:4]:
                    self.assert_deed_refused(studio, NoName, word, name, *values)

    def test_names_in_lots_are_not_found(self):
        studio = studio_with("a", "b", "c")
        studio.gather(("a", "b"), "m")
        studio.gather(("m",), "n")
        for word, *values in self.GOOD + self.BAD:
            for name in ("a", "b", "m"):
                self.assert_deed_refused(studio, NoName, word, name, *values)
        for name in ("a", "b", "m"):
            self.assert_deed_refused(studio, NoName, "gather", (name,), "o")
            self.assert_deed_refused(studio, NoName, "gather", ("c", name), "o")

    def test_paint_ahead_of_its_rule_and_mode(self):
        for name in ("c", ""):
            self.assert_deed_refused(studio_with("a"), NoName, "paint", name, SQUARE, RED, rule="none", mode="none")


class DropTest(StudioTest):
    def test_each(self):
        for at in range(3):
            studio = studio_with("a", "b", "c")
            rest = studio.layers()[:at] + studio.layers()[at + 1:]
            self.assertIsNone(studio.drop("abc"[at]))
            self.assert_done(studio, ("drop", ("abc"[at],)), rest)

    def test_a_lot_goes_with_all_in_it(self):
        studio = studio_with("a", "b", "c")
        studio.gather(("a", "c"), "m")
        studio.drop("m")
        self.assertEqual(names_of(studio), ["b"])
        self.assert_deed_refused(studio, NoName, "drop", "m")


class MoveTest(StudioTest):
    def test_a_leaf(self):
        studio = studio_with("a", "b")
        self.assertIsNone(studio.move("b", 5, -7))
        self.assert_done(studio, ("move", ("b", 5, -7)), (leaf("a", PICTURES[0]), leaf("b", PICTURES[1], 6, -8)))
        studio.move("a", 0, 0)
        self.assert_done(studio, ("move", ("a", 0, 0)), (leaf("a", PICTURES[0]), leaf("b", PICTURES[1], 6, -8)))

    def test_all_in_a_lot_and_in_lots_in_it(self):
        studio = studio_with("a", "b", "c", "d")
        studio.gather(("b", "c"), "m")
        studio.fade("m", 77)
        studio.gather(("a", "m"), "n")
        studio.blend("n", "times")
        studio.move("n", 10, 20)
        inner = lot("m", (leaf("b", PICTURES[1], 11, 19), leaf("c", PICTURES[2], 12, 18)), (77, "plain", True))
        whole = lot("n", (leaf("a", PICTURES[0], 10, 20), inner), (255, "times", True))
        self.assert_done(studio, ("move", ("n", 10, 20)), (whole, leaf("d", PICTURES[3], 3, -3)))

    def test_an_order_in_lots_stays(self):
        studio = studio_with("a", "b", "c", "d", "e")
        studio.gather(("b", "c"), "m")
        studio.gather(("a", "m", "d"), "n")
        before = studio.layers()
        studio.move("n", 3, 4)
        studio.move("n", -3, -4)
        self.assertEqual(studio.layers(), before)

    def test_hidden_ones_are_moved_too(self):
        studio = studio_with("a", "b")
        studio.show("a", False)
        studio.gather(("a", "b"), "m")
        studio.show("m", False)
        studio.move("m", 1, 1)
        inner = (leaf("a", PICTURES[0], 1, 1, (255, "plain", False)), leaf("b", PICTURES[1], 2, 0))
        self.assertEqual(studio.layers(), (lot("m", inner, (255, "plain", False)),))

    def test_as_far_as_it_goes(self):
        for x, y in ((999, 0), (-999, 0), (0, 999), (0, -999), (999, -999)):
            studio = Studio(2, 2)
            studio.add("a", ONE)
            studio.move("a", x, y)
            self.assertEqual(studio.layers(), (leaf("a", ONE, x, y),))
            for more in (1, -1):
                if abs(x + more) > 999:
                    self.assert_deed_refused(studio, TooGreat, "move", "a", more, 0)
                if abs(y + more) > 999:
                    self.assert_deed_refused(studio, TooGreat, "move", "a", 0, more)
            studio.move("a", -x, -y)
            self.assertEqual(studio.layers(), (leaf("a"),))

    def test_what_lies_beside_does_not_matter(self):
        studio = Studio(2, 2)
        studio.add("a", ONE, x=999)
        studio.add("b", ONE)
        studio.add("c", ONE, x=999)
        studio.move("b", 5, 5)
        self.assertEqual(studio.layers(), (leaf("a", ONE, 999), leaf("b", ONE, 5, 5), leaf("c", ONE, 999)))

    def test_one_leaf_of_a_lot_would_lie_too_far(self):
        for far in ("a", "b", "c"):
            studio = Studio(2, 2)
            for name in "abc":
                studio.add(name, ONE, x=990 if name == far else 0, y=-990 if name == far else 0)
            studio.gather(("b", "c"), "m")
            studio.gather(("a", "m"), "n")
            for x, y in ((10, 0), (0, -10), (10, -10), (5000, 0), (-5000, 0)):
                self.assert_deed_refused(studio, TooGreat, "move", "n", x, y)
            studio.move("n", 9, -9)

    def test_lots_in_lots_very_deep(self):
        studio = Studio(1, 1)
        studio.add("a", ONE, x=5)
        letters = "bcdefghijk"
        last = "a"
        for k in range(2000):
            name = "".join([letters[int(figure)] for figure in str(k)])
            studio.gather((last,), name)
            last = name
        studio.move(last, -5, 0)
        self.assertEqual(studio.picture(), ONE)
        self.assertEqual(len(studio.hit(0, 0)[0]), 2001)
        self.assert_deed_refused_deep(studio)

    def assert_deed_refused_deep(self, studio):
        # Things so deep can't be held against one another, so the refusal alone is asked for.
        with self.assertRaises(Taken):
            studio.add("a", ONE)
        with self.assertRaises(TooGreat):
            studio.move(studio.layers()[0][1], 1000, 0)
        self.assertEqual(len(studio.deeds()), 2002)


class LookTest(StudioTest):
    """fade, blend and show, of leaves and of lots."""

    def test_fade(self):
        for share in (0, 1, 128, 254, 255):
            studio = studio_with("a", "b")
            self.assertIsNone(studio.fade("a", share))
            first = leaf("a", PICTURES[0], look=(share, "plain", True))
            self.assert_done(studio, ("fade", ("a", share)), (first, leaf("b", PICTURES[1], 1, -1)))
            studio.gather(("a",), "m")
            studio.fade("m", 255 - share)
            self.assertEqual(studio.layers()[0], lot("m", (first,), (255 - share, "plain", True)))

    def test_bad_parts(self):
        for share in (-1, 256, 10 ** 30, None, "1", (), True, False):
            self.assert_deed_refused(studio_with("a"), BadPart, "fade", "a", share)

    def test_blend(self):
        for mode in MODES:
            studio = studio_with("a", "b")
            studio.fade("b", 99)
            self.assertIsNone(studio.blend("b", mode))
            second = leaf("b", PICTURES[1], 1, -1, (99, mode, True))
            self.assert_done(studio, ("blend", ("b", mode)), (leaf("a", PICTURES[0]), second))
            studio.gather(("b",), "m")
            studio.blend("m", mode)
            self.assertEqual(studio.layers()[1], lot("m", (second,), (255, mode, True)))

    def test_bad_modes(self):
        for mode in ("", "Plain", "plain ", "over", "odd", None, 0):
            self.assert_deed_refused(studio_with("a"), BadMode, "blend", "a", mode)

    def test_show(self):
        studio = studio_with("a", "b")
        studio.blend("a", "add")
        for shown in (False, False, True):
            self.assertIsNone(studio.show("a", shown))
            first = leaf("a", PICTURES[0], look=(255, "add", shown))
            self.assert_done(studio, ("show", ("a", shown)), (first, leaf("b", PICTURES[1], 1, -1)))
        studio.gather(("a", "b"), "m")
        studio.show("m", False)
        self.assertEqual(studio.layers()[0][-3:], (255, "plain", False))
        self.assertEqual(studio.picture(), plain_one(4, 3, CLEAR))


class LiftTest(StudioTest):
    def test_to_each_place(self):
        for at in range(4):
            for place in range(4):
                studio = studio_with("a", "b", "c", "d")
                layers = list(studio.layers())
                layer = layers.pop(at)
                layers.insert(place, layer)
                self.assertIsNone(studio.lift("abcd"[at], place))
                self.assert_done(studio, ("lift", ("abcd"[at], place)), tuple(layers))

    def test_no_place(self):
        for many in (1, 2, 4):
            studio = studio_with(*"abcd"[:many])
            for place in (-1, many, many + 1, -many, 10 ** 20):
                self.assert_deed_refused(studio, NoPlace, "lift", "a", place)

    def test_a_lot_counts_as_one(self):
        studio = studio_with("a", "b", "c")
        studio.gather(("a", "b"), "m")
        studio.lift("m", 1)
        self.assertEqual(names_of(studio), ["c", "m"])
        self.assert_deed_refused(studio, NoPlace, "lift", "c", 2)


class GatherTest(StudioTest):
    def assert_gathered(self, names, told):
        """Of a, b, c, d, e these are gathered, in any order: this stands there then, the lot being told in brackets."""
        studio = studio_with("a", "b", "c", "d", "e")
        leaves = {layer[1]: layer for layer in studio.layers()}
        self.assertIsNone(studio.gather(names, "m"))
        layers = [lot("m", tuple([leaves[k] for k in one])) if isinstance(one, tuple) else leaves[one] for one in told]
        self.assert_done(studio, ("gather", (names, "m")), tuple(layers))

    def test_one(self):
        self.assert_gathered(("a",), [("a",), "b", "c", "d", "e"])
        self.assert_gathered(("c",), ["a", "b", ("c",), "d", "e"])
        self.assert_gathered(("e",), ["a", "b", "c", "d", ("e",)])

    def test_all(self):
        self.assert_gathered(("a", "b", "c", "d", "e"), [("a", "b", "c", "d", "e")])

    def test_apart_from_one_another(self):
        self.assert_gathered(("a", "c"), ["b", ("a", "c"), "d", "e"])
        self.assert_gathered(("a", "e"), ["b", "c", "d", ("a", "e")])
        self.assert_gathered(("b", "d"), ["a", "c", ("b", "d"), "e"])

    def test_in_another_order_than_they_stand(self):
        self.assert_gathered(("d", "a", "b"), ["c", ("a", "b", "d"), "e"])
        self.assert_gathered(("e", "d", "c", "b", "a"), [("a", "b", "c", "d", "e")])

    def test_lots_in_lots(self):
        studio = studio_with("a", "b", "c")
        a, b, c = studio.layers()
        studio.gather(("a", "c"), "m")
        studio.fade("m", 9)
        studio.gather(("m", "b"), "n")
        self.assert_done(studio, ("gather", (("m", "b"), "n")), (lot("n", (b, lot("m", (a, c), (9, "plain", True)))),))

    def test_looks_stay(self):
        studio = studio_with("a", "b")
        studio.fade("a", 3)
        studio.blend("b", "less")
        studio.show("b", False)
        inner = studio.layers()
        studio.gather(("a", "b"), "m")
        self.assertEqual(studio.layers(), (lot("m", inner),))

    def test_refusals(self):
        studio = studio_with("a", "b", "c")
        for names in (("d",), ("a", "d"), ("d", "a"), ("A",), ("a", "b", "c", "d")):
            for name in ("m", "A", "a"):
                self.assert_deed_refused(studio, NoName, "gather", names, name)
        for name in WRONG_NAMES:
            self.assert_deed_refused(studio, BadName, "gather", ("a", "b"), name)
        for name in ("a", "b", "c"):
            self.assert_deed_refused(studio, Taken, "gather", ("a", "b"), name)
        studio.gather(("a", "b"), "m")
        for name in ("a", "b", "c", "m"):
            self.assert_deed_refused(studio, Taken, "gather", ("c",), name)
            self.assert_deed_refused(studio, Taken, "gather", ("m",), name)

    def test_a_lot_of_none_is_not_refused(self):
        studio = studio_with("a", "b")
        a, b = studio.layers()
        studio.gather((), "m")
        self.assert_done(studio, ("gather", ((), "m")), (a, b, lot("m", ())))
        self.assert_deed_refused(studio, BadName, "gather", (), "M")
        self.assert_deed_refused(studio, Taken, "gather", (), "m")
        studio.move("m", 5000, 0)
        self.assertEqual(studio.layers(), (a, b, lot("m", ())))


class OpenUpTest(StudioTest):
    def test_in_its_place(self):
        for names, told in ((("b", "c"), "abcd"), (("a", "d"), "bcad"), (("a",), "abcd"), (("b", "d"), "acbd")):
            studio = studio_with("a", "b", "c", "d")
            leaves = {layer[1]: layer for layer in studio.layers()}
            studio.gather(names, "m")
            self.assertIsNone(studio.open_up("m"))
            self.assert_done(studio, ("open_up", ("m",)), tuple([leaves[name] for name in told]))

    def test_looks_of_the_layers_stay_and_the_lots_go(self):
        studio = studio_with("a", "b")
        studio.fade("a", 3)
        inner = studio.layers()
        studio.gather(("a", "b"), "m")
        studio.fade("m", 50)
        studio.show("m", False)
        studio.open_up("m")
        self.assertEqual(studio.layers(), inner)
        studio.add("m", ONE)

    def test_a_lot_in_a_lot_stays_one(self):
        studio = studio_with("a", "b")
        studio.gather(("a",), "m")
        inner = studio.layers()
        studio.gather(("m", "b"), "n")
        studio.open_up("n")
        self.assertEqual(studio.layers(), inner)

    def test_an_empty_lot(self):
        studio = studio_with("a")
        studio.gather((), "m")
        studio.add("b", ONE)
        studio.open_up("m")
        self.assert_done(studio, ("open_up", ("m",)), (leaf("a", PICTURES[0]), leaf("b")))

    def test_leaves_are_no_lots(self):
        studio = studio_with("a", "b")
        studio.gather(("b",), "m")
        self.assert_deed_refused(studio, NoName, "open_up", "a")


class MeltTest(StudioTest):
    def test_a_leaf(self):
        studio = studio_with("a", "b")
        studio.fade("b", 100)
        studio.blend("b", "times")
        below, above = studio.layers()
        self.assertIsNone(studio.melt("b"))
        self.assert_done(studio, ("melt", ("b",)), (below, leaf("b", flattened(4, 3, (above,)))))

    def test_what_lies_beside_is_left_out(self):
        studio = Studio(2, 2)
        studio.add("a", numbered(3, 3), x=-1, y=1)
        studio.melt("a")
        cells = numbered(3, 3)[2]
        self.assertEqual(studio.layers(), (leaf("a", (2, 2, (CLEAR, CLEAR, cells[1], cells[2]))),))
        studio.move("a", 9, 9)
        studio.melt("a")
        self.assertEqual(studio.layers(), (leaf("a", plain_one(2, 2, CLEAR)),))

    def test_hidden_layers_are_clear(self):
        studio = studio_with("a", "b", "c")
        studio.show("a", False)
        studio.melt("a")
        self.assertEqual(studio.layers()[0], leaf("a", plain_one(4, 3, CLEAR)))
        studio.gather(("b", "c"), "m")
        studio.show("m", False)
        studio.melt("m")
        self.assertEqual(studio.layers()[1], leaf("m", plain_one(4, 3, CLEAR)))

    def test_lots(self):
        studio = studio_with("a", "b", "c")
        studio.blend("b", "add")
        studio.show("a", False)
        studio.gather(("a", "b", "c"), "m")
        studio.fade("m", 120)
        studio.blend("m", "screen")
        whole = studio.layers()
        studio.melt("m")
        self.assert_done(studio, ("melt", ("m",)), (leaf("m", flattened(4, 3, whole)),))
        studio.add("a", ONE)

    def test_names_within_are_free_again(self):
        studio = studio_with("a", "b")
        studio.gather(("a", "b"), "m")
        studio.melt("m")
        studio.add("a", ONE)
        self.assert_deed_refused(studio, NoName, "open_up", "m")

    def test_in_its_place(self):
        for name in "abc":
            studio = studio_with("a", "b", "c")
            studio.melt(name)
            self.assertEqual(names_of(studio), ["a", "b", "c"])


class PaintTest(StudioTest):
    def test_by_the_paths_cover(self):
        for path in (SQUARE, BENT, ()):
            for rule in ("odd", "wound"):
                for mode in MODES:
                    studio = studio_with("a", "b")
                    studio.fade("b", 7)
                    below, above = studio.layers()
                    self.assertIsNone(studio.paint("b", path, GREEN, rule=rule, mode=mode))
                    told = painted(PICTURES[1], covered(path, 4, 4, rule), GREEN, mode=mode)
                    layers = (below, leaf("b", told, 1, -1, (7, "plain", True)))
                    self.assert_done(studio, ("paint", ("b", path, GREEN, rule, mode)), layers)

    def test_what_is_left_out(self):
        ring = (("to", (0, 0)), ("to", (8, 0)), ("to", (8, 8)), ("to", (0, 8)))
        studio = Studio(3, 3)
        studio.add("a", plain_one(3, 3, (9, 9, 9, 255)))
        studio.paint("a", (ring, ring), RED)
        self.assertEqual(studio.deeds()[-1], ("paint", ("a", (ring, ring), RED, "odd", "plain")))
        self.assertEqual(studio.layers()[0][2], plain_one(3, 3, (9, 9, 9, 255)))
        studio.paint("a", (ring, ring), RED, rule="wound")
        self.assertEqual(studio.deeds()[-1], ("paint", ("a", (ring, ring), RED, "wound", "plain")))
        self.assertEqual(studio.layers()[0][2][2][:3], (RED, RED, (9, 9, 9, 255)))
        studio.paint("a", (ring,), WHITE, mode="times")
        self.assertEqual(studio.deeds()[-1], ("paint", ("a", (ring,), WHITE, "odd", "times")))
        self.assertEqual(studio.layers()[0][2][2][:3], (RED, RED, (9, 9, 9, 255)))

    def test_places_are_the_leafs_own(self):
        studio = Studio(3, 3)
        studio.add("a", plain_one(2, 2, BLUE), x=1, y=1)
        studio.paint("a", ((("to", (0, 0)), ("to", (4, 0)), ("to", (4, 4)), ("to", (0, 4))),), RED)
        self.assertEqual(studio.layers()[0][2], (2, 2, (RED, BLUE, BLUE, BLUE)))
        self.assertEqual(studio.picture()[2], (CLEAR,) * 4 + (RED, BLUE, CLEAR, BLUE, BLUE))

    def test_refusals(self):
        studio = studio_with("a", "b")
        studio.gather(("b",), "m")
        for rule in ("", "Odd", "even", "plain", None):
            self.assert_deed_refused(studio, BadRule, "paint", "a", SQUARE, RED, rule=rule)
            self.assert_deed_refused(studio, BadRule, "paint", "a", SQUARE, RED, rule=rule, mode="none")
            self.assert_deed_refused(studio, NoName, "paint", "m", SQUARE, RED, rule=rule, mode="none")
        for mode in ("", "Plain", "odd", "none", None):
            self.assert_deed_refused(studio, BadMode, "paint", "a", SQUARE, RED, mode=mode)
            self.assert_deed_refused(studio, BadMode, "paint", "a", (), RED, mode=mode)
            self.assert_deed_refused(studio, NoName, "paint", "m", SQUARE, RED, mode=mode)
        self.assert_deed_refused(studio, NoName, "paint", "m", SQUARE, RED)


class FilterTest(StudioTest):
    def test_each_word(self):
        for picture in PICTURES + (scattered_picture(9, 7, 5),):
            changed = {
                "turned": turned(picture), "mirrored": mirrored(picture), "evened": curved(picture, evened(picture)),
                "middled": middled(picture, 1, "near"),
                "grey": picture[:2] + (tuple([grey(cell) for cell in picture[2]]),)}
            for word in WORDS:
                studio = Studio(6, 6)
                studio.add("a", ONE)
                studio.add("b", picture, x=2, y=1)
                studio.blend("b", "dark")
                self.assertIsNone(studio.filter("b", word))
                layers = (leaf("a"), leaf("b", changed[word], 2, 1, (255, "dark", True)))
                self.assert_done(studio, ("filter", ("b", word)), layers)

    def test_refusals(self):
        studio = studio_with("a", "b")
        studio.gather(("b",), "m")
        for word in ("", "Grey", "grey ", "gray", "blurred", "shown", "curved", "halved", None, 0):
            self.assert_deed_refused(studio, BadWord, "filter", "a", word)
            self.assert_deed_refused(studio, NoName, "filter", "m", word)
        for word in WORDS:
            self.assert_deed_refused(studio, NoName, "filter", "m", word)


class UndoTest(StudioTest):
    def test_one_by_one(self):
        whole, deeds = busy_studio()
        states = [state_of(busy_studio(many)[0]) for many in range(len(deeds) + 1)]
        self.assertEqual(whole.deeds(), deeds)
        for many in range(len(deeds) - 1, -1, -1):
            self.assertIsNone(whole.undo())
            layers, picture, done, undone, count, text = states[many]
            self.assertEqual(state_of(whole), (layers, picture, deeds[:many], deeds[many:], count, text))
        self.assert_deed_refused(whole, Nothing, "undo")
        for many in range(1, len(deeds) + 1):
            self.assertIsNone(whole.redo())
            layers, picture, done, undone, count, text = states[many]
            self.assertEqual(state_of(whole), (layers, picture, deeds[:many], deeds[many:], count, text))
        self.assert_deed_refused(whole, Nothing, "redo")

    def test_forth_and_back(self):
        studio, deeds = busy_studio()
        done = len(deeds)
        for way in scattered(4, 200, 2):
            if way and done < len(deeds):
                studio.redo()
                done += 1
            elif not way and done > 0:
                studio.undo()
                done -= 1
            self.assertEqual((studio.deeds(), studio.undone()), (deeds[:done], deeds[done:]))
            self.assertEqual(studio.layers(), busy_studio(done)[0].layers())

    def test_a_deed_behind_an_undo(self):
        studio = studio_with("a", "b", "c")
        studio.undo()
        studio.undo()
        studio.fade("a", 9)
        self.assertEqual(studio.undone(), ())
        self.assert_deed_refused(studio, Nothing, "redo")
        self.assertEqual([deed[0] for deed in studio.deeds()], ["add", "fade"])
        studio.undo()
        self.assertEqual(studio.undone(), (("fade", ("a", 9)),))
        self.assertEqual(studio.layers(), studio_with("a").layers())

    def test_a_refused_deed_behind_an_undo(self):
        studio = studio_with("a", "b")
        studio.undo()
        self.assert_deed_refused(studio, NoName, "fade", "b", 9)
        self.assert_deed_refused(studio, Taken, "add", "a", ONE)
        self.assert_deed_refused(studio, BadPart, "fade", "a", 256)
        studio.redo()
        self.assertEqual(studio, studio_with("a", "b"))
        self.assertEqual(studio.layers(), studio_with("a", "b").layers())

    def test_deeds_that_change_nothing_count(self):
        studio = studio_with("a")
        studio.fade("a", 255)
        studio.show("a", True)
        studio.move("a", 0, 0)
        studio.lift("a", 0)
        self.assertEqual([deed[0] for deed in studio.deeds()], ["add", "fade", "show", "move", "lift"])
        for many in range(4, -1, -1):
            studio.undo()
            self.assertEqual(len(studio.deeds()), many)

    def test_undone_names_are_free(self):
        studio = studio_with("a")
        studio.undo()
        studio.add("a", PICTURES[3])
        self.assertEqual(studio.layers(), (leaf("a", PICTURES[3]),))


class AskedTest(StudioTest):
    def test_a_studio_shows_what_its_layers_come_to(self):
        studio, deeds = busy_studio()
        for k in range(len(deeds)):
            self.assertEqual(studio.picture(), flattened(4, 3, studio.layers()))
            for x in range(-1, 5):
                for y in range(-1, 4):
                    self.assertEqual(studio.hit(x, y), hit_at(studio.layers(), x, y))
            studio.undo()

    def test_hit(self):
        studio = Studio(3, 3)
        studio.add("a", plain_one(3, 3, RED))
        studio.add("b", ONE, x=1, y=1)
        studio.add("c", ONE, x=1, y=1)
        studio.gather(("b", "a"), "m")
        self.assertEqual(studio.hit(1, 1), (("c",), ("m", "b"), ("m", "a")))
        self.assertEqual(studio.hit(0, 0), (("m", "a"),))
        self.assertEqual(studio.hit(3, 0), ())

    def test_len_and_str(self):
        studio = studio_with("a", "b", "c")
        self.assertEqual((len(studio), str(studio)), (3, "4 by 3, 3 layers"))
        studio.gather(("a", "b"), "m")
        self.assertEqual((len(studio), str(studio)), (2, "4 by 3, 2 layers"))
        studio.drop("m")
        self.assertEqual((len(studio), str(studio)), (1, "4 by 3, 1 layers"))
        self.assertEqual(str(Studio(99, 1)), "99 by 1, 0 layers")

    def test_asked_again_the_same_is_told(self):
        studio = busy_studio()[0]
        self.assertEqual(state_of(studio), state_of(studio))
        for told in (studio.layers(), studio.deeds(), studio.undone(), studio.hit(1, 1)):
            self.assertIsInstance(told, tuple)

    def test_what_was_told_ahead_stays_as_it_was(self):
        studio = studio_with("a", "b")
        studio.undo()
        before = state_of(studio)
        shown = repr(before)
        studio.redo()
        studio.fade("a", 1)
        studio.drop("b")
        self.assertEqual(repr(before), shown)
        self.assertNotEqual(repr(state_of(studio)), shown)

    def test_two_studios_side_by_side(self):
        one, other = studio_with("a", "b"), studio_with("a", "b")
        before = state_of(other)
        one.undo()
        one.fade("a", 3)
        one.add("z", ONE)
        self.assertEqual(state_of(other), before)
        other.drop("a")
        self.assertEqual(names_of(one), ["a", "z"])
        self.assertEqual(Studio(4, 3).deeds(), ())


class EqualTest(StudioTest):
    def test_equal_ones(self):
        for many in (0, 1, 5, 18):
            one, other = busy_studio(many)[0], busy_studio(many)[0]
            self.assertTrue(one == other)
            self.assertFalse(one != other)
            self.assertTrue(one == shadow_of(one))
            self.assertTrue((one, 1) == (other, 1))

    def test_sizes(self):
        for width, height in ((3, 4), (4, 4), (5, 3), (4, 2)):
            self.assertFalse(Studio(4, 3) == Studio(width, height))
            self.assertTrue(Studio(4, 3) != Studio(width, height))

    def test_deeds_count_not_layers(self):
        one, other = studio_with("a"), studio_with("a")
        one.fade("a", 255)
        self.assertEqual(one.layers(), other.layers())
        self.assertFalse(one == other)
        other.fade("a", 255)
        self.assertTrue(one == other)

    def test_what_is_undone_counts(self):
        one, other = studio_with("a", "b"), studio_with("a")
        one.undo()
        self.assertFalse(one == other)
        other.add("b", PICTURES[1], x=1, y=-1)
        other.undo()
        self.assertTrue(one == other)

    def test_what_was_left_out_is_equal_to_what_was_handed_in(self):
        one, other = Studio(2, 2), Studio(2, 2)
        one.add("a", ONE)
        other.add("a", ONE, y=0, x=0)
        one.paint("a", SQUARE, RED)
        other.paint("a", SQUARE, RED, mode="plain", rule="odd")
        self.assertTrue(one == other)

    def test_a_studio_is_equal_to_no_other_thing(self):
        studio = studio_with("a")
        for thing in STRANGE + (str(studio), studio.layers(), studio.deeds(), (4, 3), (studio,), [studio], Studio):
            self.assertFalse(studio == thing)
            self.assertTrue(studio != thing)
            self.assertFalse(thing == studio)
        self.assertTrue((studio,) == (studio_with("a"),))
        self.assertIn(studio_with("a"), (1, studio))


class RowsOfDeedsTest(StudioTest):
    """0.2 (a) and (j) over scattered rows of deeds, many of them refused."""

    def test_scattered_deeds(self):
        done, refused = {}, {}
        for seed in range(12):
            studio = Studio(4, 3)
            for n in scattered(seed, 120, 10 ** 6):
                word, values = scattered_deed(n)
                before = state_of(studio)
                try:
                    do_deed(studio, (word, values))
                except PaintError as why:
                    self.assertEqual(state_of(studio), before)
                    refused[type(why)] = refused.get(type(why), 0) + 1
                    continue
                done[word] = done.get(word, 0) + 1
                self.assert_sound(studio)
                if word not in ("undo", "redo"):
                    self.assertEqual(studio.deeds(), before[2] + ((word, values),))
                    self.assertEqual(studio.undone(), ())
            self.assertTrue(shadow_of(studio) == studio)
            self.assertEqual(state_of(shadow_of(studio)), state_of(studio))
        self.assertEqual(len(done), 14)
        self.assertGreaterEqual(len(refused), 9)

    def assert_sound(self, studio):
        """All layers are layers, no name stands twice, and what is shown is a picture."""
        self.assertTrue(all([is_layer(layer) for layer in studio.layers()]))
        names = self.all_names(studio.layers())
        self.assertEqual(len(names), len(set(names)))
        self.assertTrue(is_picture(studio.picture()))
        self.assertEqual(studio.picture(), flattened(4, 3, studio.layers()))

    def all_names(self, layers):
        inner = [self.all_names(layer[2]) for layer in layers if layer[0] == "lot"]
        return [layer[1] for layer in layers] + sum(inner, [])


if __name__ == "__main__":
    unittest.main()
