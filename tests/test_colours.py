"""Promises 0.3 to 0.5 as far as they speak of colours, 1.1 to 1.3, and mean_colour of 2.3."""

import unittest

from helping import CLEAR, GREEN, MODES, RED, STRANGE, WHITE, deep_nest, half_up
from paintyard.colours import blended, distance, faded, grey, is_colour, laid_over, mean_colour, shared
from paintyard.errors import BadMode, PaintError
from paintyard.parts import is_part, is_whole, rounded

PARTS = (0, 1, 2, 63, 127, 128, 200, 254, 255)
COVERS = (0, 1, 34, 102, 127, 128, 170, 204, 254, 255)
SAMPLES = [(p, 255 - p, p * 7 % 256, cover) for p in (0, 3, 100, 255) for cover in COVERS]


def mode_by_rule(p, q, mode):
    """What each mode tells, by the words of 1.3."""
    times = half_up(p * q, 255)
    screen = 255 - half_up((255 - p) * (255 - q), 255)
    table = {"plain": p, "times": times, "screen": screen, "dark": sorted((p, q))[0], "light": sorted((p, q))[1],
             "add": 255 if p + q > 255 else p + q, "less": 0 if p > q else q - p, "apart": p - q if p > q else q - p}
    return table[mode]


def laid_by_rule(top, bottom):
    """What 1.2 tells."""
    t, b = top[3], bottom[3]
    whole = 255 * t + b * (255 - t)
    if whole == 0:
        return (0, 0, 0, 0)
    parts = [half_up(255 * t * top[k] + b * (255 - t) * bottom[k], whole) for k in range(3)]
    return tuple(parts + [half_up(whole, 255)])


def blended_by_rule(top, bottom, mode):
    """What 1.3 tells."""
    b = bottom[3]
    mixed = [half_up((255 - b) * top[k] + b * mode_by_rule(top[k], bottom[k], mode), 255) for k in range(3)]
    return laid_by_rule(tuple(mixed + [top[3]]), bottom)


class PartsTest(unittest.TestCase):
    def test_whole_numbers_are_ints_that_are_no_truths(self):
        for thing in (0, 1, -5, 10 ** 40):
            self.assertIs(is_whole(thing), True)
        for thing in (True, False, None, "1", 1.0, (1,), [1]):
            self.assertIs(is_whole(thing), False)

    def test_parts_go_from_0_to_255(self):
        self.assertEqual([is_part(n) for n in (-1, 0, 1, 254, 255, 256)], [False, True, True, True, True, False])
        self.assertIs(is_part(True), False)

    def test_rounded_is_halves_up(self):
        self.assertEqual([rounded(n, 2) for n in (-3, -2, -1, 0, 1, 2, 3)], [-1, -1, 0, 0, 1, 1, 2])
        for by in (1, 2, 3, 4, 10, 255, 1000):
            for amount in range(-60, 60):
                self.assertEqual(rounded(amount, by), half_up(amount, by), (amount, by))

    def test_rounded_is_exact_for_great_numbers(self):
        self.assertEqual(rounded(10 ** 40 + 1, 2), 10 ** 40 // 2 + 1)


class IsColourTest(unittest.TestCase):
    def test_good_ones(self):
        for thing in ((0, 0, 0, 0), (255, 255, 255, 255), (1, 2, 3, 4), (0, 255, 128, 0)):
            self.assertIs(is_colour(thing), True)

    def test_each_part_spoilt(self):
        for at in range(4):
            for worth, fine in ((-1, False), (0, True), (255, True), (256, False), (True, False), (False, False),
                                (None, False), ("1", False), (1.0, False), ((1,), False), ([1], False)):
                parts = [10, 20, 30, 40]
                parts[at] = worth
                self.assertIs(is_colour(tuple(parts)), fine, parts)

    def test_too_few_and_too_many(self):
        for many in (0, 1, 2, 3, 5, 8):
            self.assertIs(is_colour((7,) * many), False)

    def test_lists_are_none(self):
        self.assertIs(is_colour([1, 2, 3, 4]), False)
        self.assertIs(is_colour([(1, 2, 3, 4)]), False)
        self.assertIs(is_colour(((1, 2, 3, 4),)), False)

    def test_any_thing(self):
        for thing in STRANGE:
            self.assertIs(is_colour(thing), False, repr(thing))
        self.assertIs(is_colour(deep_nest(5000)), False)

    def test_what_is_asked_of_is_not_changed(self):
        thing = [1, [2, 3], (4, [5])]
        is_colour(thing)
        self.assertEqual(thing, [1, [2, 3], (4, [5])])


class SharedTest(unittest.TestCase):
    def test_by_hand(self):
        self.assertEqual(shared((0, 100, 255, 10), (255, 200, 0, 20), 0), (0, 100, 255, 10))
        self.assertEqual(shared((0, 100, 255, 10), (255, 200, 0, 20), 255), (255, 200, 0, 20))
        self.assertEqual(shared((0, 100, 255, 10), (255, 200, 0, 20), 51), (51, 120, 204, 12))

    def test_next_to_the_half(self):
        # A quotient by 255 is never a half, as 255 is odd: these are the ones next to it on both sides.
        self.assertEqual(shared((0, 0, 0, 0), (1, 1, 1, 1), 127), (0, 0, 0, 0))
        self.assertEqual(shared((0, 0, 0, 0), (1, 1, 1, 1), 128), (1, 1, 1, 1))
        self.assertEqual(shared((1, 0, 1, 0), (0, 1, 0, 1), 127), (1, 0, 1, 0))

    def test_by_rule(self):
        for p in PARTS:
            for q in PARTS:
                for share in PARTS:
                    one, other = (p, q, 255 - p, q), (q, p, 9, 255 - q)
                    told = tuple([half_up(a * (255 - share) + b * share, 255) for a, b in zip(one, other)])
                    self.assertEqual(shared(one, other, share), told)
                    self.assertTrue(is_colour(told))


class GreyTest(unittest.TestCase):
    def test_by_hand(self):
        self.assertEqual(grey((255, 0, 0, 255)), (76, 76, 76, 255))
        self.assertEqual(grey((0, 255, 0, 9)), (150, 150, 150, 9))
        self.assertEqual(grey((0, 0, 255, 0)), (29, 29, 29, 0))
        self.assertEqual(grey(WHITE), WHITE)
        self.assertEqual(grey(CLEAR), CLEAR)

    def test_the_very_half_goes_up(self):
        self.assertEqual(grey((0, 0, 250, 5)), (29, 29, 29, 5))
        self.assertEqual(grey((0, 70, 65, 5)), (49, 49, 49, 5))
        self.assertEqual(grey((0, 210, 195, 5)), (146, 146, 146, 5))

    def test_by_rule(self):
        for red in PARTS:
            for green in PARTS:
                for blue in PARTS:
                    light = half_up(299 * red + 587 * green + 114 * blue, 1000)
                    self.assertEqual(grey((red, green, blue, red)), (light, light, light, red))


class DistanceTest(unittest.TestCase):
    def test_by_hand(self):
        self.assertEqual(distance((1, 2, 3, 4), (1, 2, 3, 4)), 0)
        self.assertEqual(distance((1, 2, 3, 4), (2, 4, 6, 8)), 1 + 4 + 9 + 16)
        self.assertEqual(distance(CLEAR, WHITE), 4 * 255 * 255)

    def test_each_part_counts_both_ways(self):
        for at in range(4):
            other = tuple([10 if k == at else 0 for k in range(4)])
            self.assertEqual(distance(CLEAR, other), 100)
            self.assertEqual(distance(other, CLEAR), 100)


class LaidOverTest(unittest.TestCase):
    def test_what_covers_wholly_hides(self):
        for bottom in SAMPLES:
            self.assertEqual(laid_over((1, 2, 3, 255), bottom), (1, 2, 3, 255))

    def test_what_is_clear_changes_only_clear_ones(self):
        for bottom in SAMPLES:
            told = bottom if bottom[3] else CLEAR
            self.assertEqual(laid_over((9, 8, 7, 0), bottom), told)

    def test_over_a_clear_one_the_top_stays(self):
        for cover in (1, 2, 127, 128, 254, 255):
            self.assertEqual(laid_over((9, 80, 255, cover), (1, 2, 3, 0)), (9, 80, 255, cover))

    def test_both_clear(self):
        self.assertEqual(laid_over((9, 8, 7, 0), (1, 2, 3, 0)), (0, 0, 0, 0))

    def test_by_hand(self):
        self.assertEqual(laid_over((255, 255, 255, 51), (0, 0, 0, 255)), (51, 51, 51, 255))
        self.assertEqual(laid_over((200, 0, 0, 102), (0, 100, 0, 170)), (100, 50, 0, 204))

    def test_the_very_half_goes_up(self):
        # With these covers top and bottom weigh the same.
        self.assertEqual(laid_over((0, 1, 0, 102), (1, 0, 3, 170)), (1, 1, 2, 204))
        # With these the top weighs five times as much: 4 and a half, a half, and ten sixths.
        self.assertEqual(laid_over((5, 0, 2, 170), (2, 3, 0, 102)), (5, 1, 2, 204))

    def test_the_cover_is_rounded(self):
        self.assertEqual(laid_over((0, 0, 0, 1), (0, 0, 0, 127))[3], 128)
        self.assertEqual(laid_over((0, 0, 0, 1), (0, 0, 0, 128))[3], 128)

    def test_by_rule(self):
        for top in SAMPLES:
            for bottom in SAMPLES:
                told = laid_over(top, bottom)
                self.assertEqual(told, laid_by_rule(top, bottom), (top, bottom))
                self.assertTrue(is_colour(told))


class BlendedTest(unittest.TestCase):
    def test_each_mode_by_hand_over_a_full_one(self):
        top, bottom = (100, 200, 30, 255), (200, 100, 30, 255)
        self.assertEqual(blended(top, bottom, "plain"), (100, 200, 30, 255))
        self.assertEqual(blended(top, bottom, "times"), (78, 78, 4, 255))
        self.assertEqual(blended(top, bottom, "screen"), (222, 222, 56, 255))
        self.assertEqual(blended(top, bottom, "dark"), (100, 100, 30, 255))
        self.assertEqual(blended(top, bottom, "light"), (200, 200, 30, 255))
        self.assertEqual(blended(top, bottom, "add"), (255, 255, 60, 255))
        self.assertEqual(blended(top, bottom, "less"), (100, 0, 0, 255))
        self.assertEqual(blended(top, bottom, "apart"), (100, 100, 0, 255))

    def test_every_mode_by_rule(self):
        for mode in MODES:
            for top in SAMPLES:
                for bottom in SAMPLES:
                    told = blended(top, bottom, mode)
                    self.assertEqual(told, blended_by_rule(top, bottom, mode), (top, bottom, mode))
                    self.assertTrue(is_colour(told))

    def test_every_mode_of_all_parts(self):
        for mode in MODES:
            for p in PARTS:
                for q in PARTS:
                    told = mode_by_rule(p, q, mode)
                    self.assertEqual(blended((p, p, p, 255), (q, q, q, 255), mode), (told, told, told, 255), mode)

    def test_next_to_the_half(self):
        # Quotients by 255 are never halves: 127 and 128 of 255 lie next to it.
        self.assertEqual(blended((1, 1, 1, 255), (127, 128, 255, 255), "times"), (0, 1, 1, 255))
        self.assertEqual(blended((0, 0, 0, 255), (1, 1, 1, 127), "light"), (0, 0, 0, 255))
        self.assertEqual(blended((0, 0, 0, 255), (1, 1, 1, 128), "light"), (1, 1, 1, 255))

    def test_the_very_half_goes_up(self):
        self.assertEqual(blended((0, 1, 0, 102), (1, 0, 3, 170), "plain"), (1, 1, 2, 204))

    def test_plain_is_laid_over(self):
        for top in SAMPLES:
            for bottom in SAMPLES:
                self.assertEqual(blended(top, bottom, "plain"), laid_over(top, bottom))

    def test_over_a_clear_one_no_mode_matters(self):
        for mode in MODES:
            self.assertEqual(blended((9, 80, 255, 7), (1, 2, 3, 0), mode), (9, 80, 255, 7))

    def test_a_clear_top_changes_only_clear_ones(self):
        for mode in MODES:
            for bottom in SAMPLES:
                self.assertEqual(blended((9, 80, 255, 0), bottom, mode), bottom if bottom[3] else CLEAR)

    def test_words_that_are_no_mode(self):
        for word in ("", "Plain", "PLAIN", "plain ", " plain", "time", "normal", "sub", "plainplain", "add\n", "none"):
            for refusal in (BadMode, PaintError, ValueError):
                with self.assertRaises(refusal):
                    blended(RED, GREEN, word)

    def test_no_word_at_all_is_no_mode(self):
        for thing in (None, 0, True, (), ("plain",), ["plain"]):
            with self.assertRaises(BadMode):
                blended(RED, GREEN, thing)

    def test_refused_even_if_all_is_clear(self):
        with self.assertRaises(BadMode):
            blended(CLEAR, CLEAR, "nomode")


class FadedTest(unittest.TestCase):
    def test_by_hand(self):
        self.assertEqual(faded((1, 2, 3, 200), 255), (1, 2, 3, 200))
        self.assertEqual(faded((1, 2, 3, 200), 0), (1, 2, 3, 0))
        self.assertEqual(faded((1, 2, 3, 255), 77), (1, 2, 3, 77))
        self.assertEqual(faded((1, 2, 3, 100), 51), (1, 2, 3, 20))

    def test_next_to_the_half(self):
        self.assertEqual(faded((5, 5, 5, 1), 127), (5, 5, 5, 0))
        self.assertEqual(faded((5, 5, 5, 1), 128), (5, 5, 5, 1))

    def test_by_rule(self):
        for cover in PARTS:
            for share in PARTS:
                self.assertEqual(faded((1, 2, 3, cover), share), (1, 2, 3, half_up(cover * share, 255)))


class MeanColourTest(unittest.TestCase):
    def test_of_one(self):
        self.assertEqual(mean_colour(((1, 2, 3, 4),)), (1, 2, 3, 4))
        self.assertEqual(mean_colour(((1, 2, 3, 0),)), (0, 0, 0, 0))

    def test_counted_by_covers(self):
        self.assertEqual(mean_colour((RED, (0, 90, 30, 0))), (255, 0, 0, 128))
        self.assertEqual(mean_colour(((100, 0, 8, 30), (0, 100, 8, 10))), (75, 25, 8, 20))

    def test_all_clear(self):
        self.assertEqual(mean_colour(((9, 8, 7, 0), (1, 2, 3, 0))), (0, 0, 0, 0))

    def test_the_very_half_goes_up(self):
        self.assertEqual(mean_colour(((0, 1, 2, 1), (1, 2, 5, 1))), (1, 2, 4, 1))
        self.assertEqual(mean_colour(((0, 0, 0, 1), (0, 0, 0, 0))), (0, 0, 0, 1))
        self.assertEqual(mean_colour(((0, 0, 0, 2), (0, 0, 0, 1)))[3], 2)

    def test_a_cover_that_rounds_to_0_leaves_the_other_parts(self):
        self.assertEqual(mean_colour(((9, 8, 7, 1), CLEAR, CLEAR)), (9, 8, 7, 0))

    def test_by_rule(self):
        for size in (2, 3, 4, 9):
            for start in range(len(SAMPLES) - size):
                some = tuple(SAMPLES[start:start + size])
                covers = sum(one[3] for one in some)
                told = [half_up(sum(one[3] * one[k] for one in some), covers) if covers else 0 for k in range(3)]
                self.assertEqual(mean_colour(some), tuple(told + [half_up(covers, size)]))


class UnchangedTest(unittest.TestCase):
    def test_the_same_is_told_again_as_tuples(self):
        one, other = (1, 2, 3, 100), (200, 100, 50, 30)
        for ask in (lambda: shared(one, other, 9), lambda: grey(one), lambda: laid_over(one, other),
                    lambda: blended(one, other, "times"), lambda: faded(one, 9), lambda: mean_colour((one, other))):
            told = ask()
            self.assertIs(type(told), tuple)
            self.assertTrue(is_colour(told))
            self.assertEqual(told, ask())
        self.assertEqual((one, other), ((1, 2, 3, 100), (200, 100, 50, 30)))


if __name__ == "__main__":
    unittest.main()
