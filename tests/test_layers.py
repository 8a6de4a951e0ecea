"""Promises 7.1 and 7.2 of layers, 0.3 of is_layer, and 0.2 (a) and (b) as far as they speak of them."""

import unittest

from helping import (
    BLUE, CLEAR, GREEN, MODES, RED, STRANGE, WHITE, deep_nest, numbered, scattered, scattered_picture, spoilt_ones)
from paintyard.colours import blended, faded
from paintyard.layers import flattened, hit_at, is_layer
from paintyard.pictures import cell_at, is_picture, laid, placed, plain_one

ONE = plain_one(1, 1, RED)
HALF_RED = (255, 0, 0, 128)


def leaf(name="a", picture=ONE, x=0, y=0, share=255, mode="plain", shown=True):
    """A leaf of which most is left out."""
    return ("leaf", name, picture, x, y, share, mode, shown)


def lot(name="l", layers=(), share=255, mode="plain", shown=True):
    """A lot of which most is left out."""
    return ("lot", name, layers, share, mode, shown)


def told_cell(layers, x, y):
    """7.1 told anew for one place: the colour that the layers come to there."""
    below = CLEAR
    for layer in layers:
        if not layer[-1]:
            continue
        above = None
        if layer[0] == "lot":
            above = told_cell(layer[2], x, y)
        else:
            (width, height, cells), left, top = layer[2:5]
            if x - left in range(width) and y - top in range(height):
                above = cells[(y - top) * width + (x - left)]
        if above is not None:
            below = blended(faded(above, layer[-3]), below, layer[-2])
    return below


def told_flattened(width, height, layers):
    """The whole picture told anew, place by place."""
    return (width, height, tuple([told_cell(layers, x, y) for y in range(height) for x in range(width)]))


def told_hits(layers, x, y):
    """7.2 told anew, lot by lot."""
    told = []
    for layer in reversed(layers):
        if layer[-1] and layer[0] == "lot":
            told.extend([(layer[1],) + names for names in told_hits(layer[2], x, y)])
        elif layer[-1]:
            (width, height, cells), left, top = layer[2:5]
            inside = {(left + at % width, top + at // width): cell for at, cell in enumerate(cells)}
            if inside.get((x, y), CLEAR)[3] != 0:
                told.append((layer[1],))
    return tuple(told)


def scattered_layers(seed, depth):
    """Some layers of all kinds, lots in lots down to a depth, some not shown."""
    told = []
    for at, n in enumerate(scattered(seed, 4, 10 ** 6)):
        name = "abcdefgh"[at] + "xyz"[n % 3]
        look = (n % 7 * 42 % 256 if n % 3 else 255, MODES[n % 8], n % 5 != 0)
        if depth > 0 and n % 2:
            told.append(("lot", name, scattered_layers(seed * 13 + at, depth - 1)) + look)
        else:
            picture = scattered_picture(seed * 17 + at, 1 + n % 5, 1 + n // 7 % 4)
            # Some clear cells, with and without parts.
            cells = tuple([cell[:3] + (0,) if cell[0] % 4 == 0 else cell for cell in picture[2]])
            told.append(("leaf", name, picture[:2] + (cells,), n % 11 - 5, n // 3 % 9 - 4) + look)
    return tuple(told)


class IsLayerTest(unittest.TestCase):
    KINDS = (leaf, lot)

    def assert_told(self, truth, *things):
        for thing in things:
            self.assertIs(is_layer(thing), truth, thing)
            # A lot is a layer just if all within are.
            self.assertIs(is_layer(lot("o", (leaf(), thing))), truth)

    def test_good_ones(self):
        self.assert_told(True, leaf(), lot(), lot("m", (leaf(),)), lot("m", (leaf(), lot("n", (leaf("b"),)), leaf("c"))))
        self.assert_told(True, leaf(picture=numbered(3, 2)), leaf(picture=plain_one(99, 99, CLEAR)), lot("m", (lot(),)))

    def test_names_may_be_alike(self):
        self.assert_told(True, lot("a", (leaf("a"), leaf("a"))))

    def test_names(self):
        for name in ("a", "z", "ab", "abcdefgh", "zzzzzzzz"):
            self.assert_told(True, *[make(name) for make in self.KINDS])
        wrong = (
            "", "abcdefghi", "A", "aB", "a1", "1", "a b", " ", "a ", " a", "a_b", "a-b", "a\n", "\n", "`", "{",
            chr(228), chr(0xFF41), None, True, 1, ("a",), ["a"], b"a", ())
        for name in wrong:
            self.assert_told(False, *[make(name) for make in self.KINDS])

    def test_x_and_y(self):
        for number, fine in ((-1000, False), (-999, True), (0, True), (999, True), (1000, False), (10 ** 30, False)):
            self.assert_told(fine, leaf(x=number), leaf(y=number), leaf(x=number, y=number))
        for number in (True, False, None, "0", 0.0, (0,), [0]):
            self.assert_told(False, leaf(x=number), leaf(y=number))

    def test_shares(self):
        for make in self.KINDS:
            for share, fine in ((-1, False), (0, True), (1, True), (255, True), (256, False), (True, False)):
                self.assert_told(fine, make(share=share))
            for share in (False, None, "255", 1.0, (255,), [255]):
                self.assert_told(False, make(share=share))

    def test_modes(self):
        for make in self.KINDS:
            self.assert_told(True, *[make(mode=mode) for mode in MODES])
            for mode in ("", "Plain", "plain ", "over", "odd", None, True, 0, ("plain",), ["plain"], b"plain"):
                self.assert_told(False, make(mode=mode))

    def test_truths(self):
        for make in self.KINDS:
            self.assert_told(True, make(shown=True), make(shown=False))
            for shown in (0, 1, None, "", "yes", "True", (), (True,), [], [True], 255):
                self.assert_told(False, make(shown=shown))

    def test_pictures(self):
        wrong = (
            None, (), [], 1, "", (1, 1, (7,)), (1, 1, ()), (0, 0, ()), [1, 1, (RED,)], (1, 1, [RED]),
            (1, 1, (list(RED),)), (2, 1, (RED,)), (1, 1, ((0, 0, 0, 256),)), (100, 1, (RED,) * 100), (leaf(),))
        for picture in wrong:
            self.assert_told(False, leaf(picture=picture))

    def test_layers_of_lots(self):
        wrong = (None, [], [leaf()], 1, "", "a", True, leaf(), lot(), ONE, (None,), ((),), ([],), (list(leaf()),), {}, (1,))
        for layers in wrong:
            self.assert_told(False, lot(layers=layers))
        self.assert_told(True, lot(layers=()), lot(layers=(leaf(),) * 50))

    def test_words(self):
        for word in ("", "Leaf", "leaf ", "lea", "layer", "lot", None, 0, ("leaf",), b"leaf"):
            self.assert_told(False, (word,) + leaf()[1:])
        for word in ("", "Lot", "lot ", "lo", "layer", "leaf", None, 0, ("lot",), b"lot"):
            self.assert_told(False, (word,) + lot()[1:])

    def test_a_leaf_in_place_of_a_lot(self):
        self.assert_told(False, ("lot",) + leaf()[1:], ("leaf",) + lot()[1:], lot(layers=ONE), leaf(picture=(leaf(),)))
        self.assert_told(False, ("lot", "a", ONE, 0, 0, 255, "plain", True), ("leaf", "a", (), 255, "plain", True))
        self.assert_told(False, ("lot", "a", (), 0, 0, 255, "plain", True), ("leaf", "a", ONE, 255, "plain", True))

    def test_too_few_and_too_many_things(self):
        for good in (leaf(), lot(), lot(layers=(leaf(),))):
            for at in range(len(good)):
                self.assert_told(False, good[:at] + good[at + 1:], good[:at] + good[at:at + 1] + good[at:])
            self.assert_told(False, (), good[:1], good + (0,), (good,), good[::-1])

    def test_lists_in_place_of_tuples(self):
        for good in (leaf(), lot(), lot(layers=(leaf(), lot()))):
            self.assert_told(False, list(good), [good])
        self.assert_told(False, lot(layers=(leaf(), list(lot()))), lot(layers=(lot(layers=[]),)))

    def test_spoilt_at_one_place(self):
        good = lot("m", (leaf("b"), lot("n", (leaf("c", x=-3),), 7, "times", False)))
        self.assert_told(True, good)
        others = (None, "", "A", -1000, 1.5, b"a", [], ["a"], (1, 2), {}, "nine letters", deep_nest(9), (None,))
        self.assert_told(False, *spoilt_ones(good, others))

    def test_strange_things(self):
        self.assert_told(False, *STRANGE)
        deep = deep_nest(50000)
        self.assert_told(False, deep, lot(layers=deep), leaf(name=deep), leaf(picture=deep), lot(share=deep))
        self.assert_told(False, (deep,) + lot()[1:], lot(layers=(leaf(), deep)))

    def test_lots_in_lots_very_deep(self):
        good, bad = leaf(), leaf("A")
        for k in range(20000):
            good, bad = lot(layers=(good,)), lot(layers=(bad,))
        self.assertIs(is_layer(good), True)
        self.assertIs(is_layer(bad), False)

    def test_what_is_asked_of_is_not_changed(self):
        thing = ["lot", "a", [leaf()], 255, "plain", True]
        is_layer(thing)
        is_layer(lot(layers=(thing,)))
        self.assertEqual(thing, ["lot", "a", [leaf()], 255, "plain", True])


class FlattenedTest(unittest.TestCase):
    def test_no_layer(self):
        self.assertEqual(flattened(3, 2, ()), plain_one(3, 2, CLEAR))
        self.assertEqual(flattened(99, 99, ()), plain_one(99, 99, CLEAR))

    def test_a_leaf_alone(self):
        picture = numbered(3, 2)
        self.assertEqual(flattened(3, 2, (leaf(picture=picture),)), picture)
        self.assertEqual(flattened(5, 4, (leaf(picture=picture, x=1, y=2),)),
                         placed(plain_one(5, 4, CLEAR), picture, 1, 2))

    def test_leaves_beside_the_picture(self):
        picture = numbered(3, 2)
        for x, y in ((-2, -1), (3, 3), (-1, 3), (3, -1), (-3, 0), (5, 0), (0, -2), (0, 4), (999, 0), (0, -999), (1, 1)):
            told = flattened(5, 4, (leaf(picture=picture, x=x, y=y),))
            self.assertEqual(told, placed(plain_one(5, 4, CLEAR), picture, x, y))
            self.assertEqual(told == plain_one(5, 4, CLEAR), not (-3 < x < 5 and -2 < y < 4))

    def test_the_first_one_is_laid_first(self):
        layers = (leaf("a", plain_one(2, 1, RED)), leaf("b", ONE, x=1), leaf("c", plain_one(1, 1, BLUE), x=1))
        self.assertEqual(flattened(3, 1, layers), (3, 1, (RED, BLUE, CLEAR)))
        self.assertEqual(flattened(3, 1, layers[::-1]), (3, 1, (RED, RED, CLEAR)))

    def test_what_is_not_shown_is_left_out(self):
        green = plain_one(1, 1, GREEN)
        self.assertEqual(flattened(1, 1, (leaf(), leaf("b", green, shown=False))), ONE)
        self.assertEqual(flattened(1, 1, (leaf(), lot("m", (leaf("b", green),), shown=False))), ONE)
        self.assertEqual(flattened(1, 1, (leaf(), lot("m", (leaf("b", green, shown=False),)))), ONE)
        self.assertEqual(flattened(1, 1, (leaf(), lot("m", (lot("n", (leaf("b", green),)),), shown=False))), ONE)
        self.assertEqual(flattened(1, 1, (leaf(shown=False), leaf("b", green))), green)
        self.assertEqual(flattened(1, 1, (leaf(shown=False),)), plain_one(1, 1, CLEAR))

    def test_shares_and_modes_of_leaves(self):
        below = leaf("a", scattered_picture(1, 3, 3))
        above = scattered_picture(2, 3, 3)
        for mode in MODES:
            for share in (0, 1, 100, 254, 255):
                told = flattened(3, 3, (below, leaf("b", above, share=share, mode=mode)))
                self.assertEqual(told, laid(flattened(3, 3, (below,)), above, 0, 0, mode=mode, share=share))

    def test_a_lot_is_the_picture_that_its_layers_come_to_alone(self):
        below = leaf("a", scattered_picture(3, 4, 3))
        inner = (leaf("b", scattered_picture(4, 2, 3), x=1), leaf("c", scattered_picture(5, 4, 1), y=1, mode="add"))
        alone = flattened(4, 3, inner)
        for mode in MODES:
            for share in (0, 77, 255):
                told = flattened(4, 3, (below, lot("m", inner, share, mode)))
                self.assertEqual(told, laid(flattened(4, 3, (below,)), alone, 0, 0, mode=mode, share=share))

    def test_a_mode_in_a_lot_meets_only_what_lies_in_the_lot(self):
        white = plain_one(1, 1, WHITE)
        dark = leaf("b", plain_one(1, 1, (10, 20, 30, 255)), mode="times")
        self.assertEqual(flattened(1, 1, (leaf(), dark)), plain_one(1, 1, (10, 0, 0, 255)))
        self.assertEqual(flattened(1, 1, (leaf(), lot("m", (dark,)))), plain_one(1, 1, (10, 20, 30, 255)))
        self.assertEqual(flattened(1, 1, (leaf("a", white), lot("m", (dark,), mode="times"))), dark[2])

    def test_empty_lots(self):
        below = leaf("a", scattered_picture(6, 3, 3))
        alone = flattened(3, 3, (below,))
        for mode in MODES:
            self.assertEqual(flattened(3, 3, (below, lot(mode=mode))), alone)
            self.assertEqual(flattened(3, 3, (lot(mode=mode), below)), alone)
            self.assertEqual(flattened(3, 3, (below, lot("m", (lot(mode=mode),)))), alone)
        self.assertEqual(flattened(3, 3, (lot(),)), plain_one(3, 3, CLEAR))

    def test_held_against_place_by_place(self):
        for seed in range(60):
            layers = scattered_layers(seed, seed % 4)
            self.assertTrue(all([is_layer(layer) for layer in layers]))
            told = flattened(5, 4, layers)
            self.assertEqual(told, told_flattened(5, 4, layers))
            self.assertTrue(is_picture(told))

    def test_laid_one_by_one_they_come_to_what_they_come_to_together(self):
        for seed in range(30):
            layers = [layer for layer in scattered_layers(seed, 0) if layer[-1]]
            picture = plain_one(5, 4, CLEAR)
            for word, name, other, x, y, share, mode, shown in layers:
                picture = laid(picture, other, x, y, mode=mode, share=share)
            self.assertEqual(flattened(5, 4, tuple(layers)), picture)

    def test_what_covers_wholly_hides(self):
        cover = scattered_picture(8, 5, 4)
        full = (5, 4, tuple([cell[:3] + (255,) for cell in cover[2]]))
        for seed in range(10):
            layers = scattered_layers(seed, 2)
            self.assertEqual(flattened(5, 4, layers + (leaf("z", full),)), full)
            self.assertEqual(flattened(5, 4, layers + (lot("z", (leaf("y", full),)),)), full)

    def test_what_is_clear_changes_nothing_but_the_parts_of_clear_cells(self):
        hollow = (5, 4, tuple([(k * 9, 255 - k, k, 0) for k in range(20)]))
        for seed in range(10):
            layers = scattered_layers(seed, 2)
            told = flattened(5, 4, layers)
            for mode in MODES:
                self.assertEqual(flattened(5, 4, layers + (leaf("z", hollow, mode=mode),)), told)
                self.assertEqual(flattened(5, 4, layers + (leaf("z", plain_one(5, 4, RED), share=0, mode=mode),)), told)
        self.assertEqual(flattened(5, 4, (leaf("z", hollow),)), plain_one(5, 4, CLEAR))

    def test_lots_in_lots_very_deep(self):
        layer = leaf("a", plain_one(1, 1, HALF_RED))
        for k in range(5000):
            layer = lot("m", (layer,))
        self.assertEqual(flattened(1, 1, (layer,)), plain_one(1, 1, HALF_RED))
        self.assertEqual(hit_at((layer,), 0, 0), (("m",) * 5000 + ("a",),))

    def test_what_is_handed_in_is_not_changed(self):
        layers = scattered_layers(11, 3)
        again = scattered_layers(11, 3)
        self.assertEqual(flattened(5, 4, layers), flattened(5, 4, layers))
        hit_at(layers, 1, 1)
        self.assertEqual(layers, again)


class HitAtTest(unittest.TestCase):
    def test_nothing(self):
        self.assertEqual(hit_at((), 0, 0), ())
        self.assertEqual(hit_at((lot(),), 0, 0), ())

    def test_the_last_ones_first(self):
        layers = (leaf("a"), leaf("b"), leaf("c", x=1), leaf("d"))
        self.assertEqual(hit_at(layers, 0, 0), (("d",), ("b",), ("a",)))
        self.assertEqual(hit_at(layers, 1, 0), (("c",),))

    def test_names_from_the_outside(self):
        layers = (
            leaf("a"), lot("m", (leaf("b"), lot("n", (leaf("c"), leaf("d"))), leaf("e"))), lot("o", (leaf("f"),)), leaf("g"))
        self.assertEqual(hit_at(layers, 0, 0), (
            ("g",), ("o", "f"), ("m", "e"), ("m", "n", "d"), ("m", "n", "c"), ("m", "b"), ("a",)))

    def test_what_is_not_shown(self):
        self.assertEqual(hit_at((leaf("a", shown=False), leaf("b")), 0, 0), (("b",),))
        self.assertEqual(hit_at((lot("m", (leaf("a"), leaf("b", shown=False))),), 0, 0), (("m", "a"),))
        self.assertEqual(hit_at((lot("m", (leaf("a"),), shown=False), leaf("b")), 0, 0), (("b",),))
        self.assertEqual(hit_at((lot("m", (lot("n", (leaf("a"),)),), shown=False),), 0, 0), ())
        self.assertEqual(hit_at((lot("m", (lot("n", (leaf("a"),), shown=False), leaf("b"))),), 0, 0), (("m", "b"),))

    def test_places_beside(self):
        layers = (leaf("a", numbered(2, 3), x=4, y=-2),)
        for x in range(2, 8):
            for y in range(-4, 3):
                told = (("a",),) if x in (4, 5) and y in (-2, -1, 0) else ()
                self.assertEqual(hit_at(layers, x, y), told)
        self.assertEqual(hit_at(layers, 10 ** 9, 10 ** 9), ())

    def test_clear_cells(self):
        picture = (3, 2, ((9, 9, 9, 0), (9, 9, 9, 1), RED, CLEAR, (0, 0, 0, 255), (255, 255, 255, 0)))
        found = [hit_at((leaf("a", picture),), x, y) for y in range(2) for x in range(3)]
        self.assertEqual(found, [(), (("a",),), (("a",),), (), (("a",),), ()])

    def test_shares_and_modes_do_not_matter(self):
        for mode in MODES:
            layers = (leaf("a", share=0, mode=mode), lot("m", (leaf("b"),), 0, mode))
            self.assertEqual(hit_at(layers, 0, 0), (("m", "b"), ("a",)))

    def test_held_against_lot_by_lot(self):
        many = 0
        for seed in range(40):
            layers = scattered_layers(seed, seed % 4)
            for x in range(-6, 8):
                for y in range(-5, 8):
                    told = hit_at(layers, x, y)
                    self.assertEqual(told, told_hits(layers, x, y))
                    many += len(told) > 1
        self.assertGreater(many, 500)

    def test_who_is_hit_alone_and_plain_shows_its_colour(self):
        layers = (leaf("a", numbered(3, 3), x=1, y=1),)
        picture = flattened(5, 5, layers)
        for x in range(5):
            for y in range(5):
                self.assertEqual(cell_at(picture, x, y) != CLEAR, hit_at(layers, x, y) == (("a",),))


if __name__ == "__main__":
    unittest.main()
