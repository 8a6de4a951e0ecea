"""What several tests need: a second way to reckon, pictures to try things on, and how refusals are asked for."""

import unittest
from fractions import Fraction
from math import floor

from paintyard.errors import PaintError
from paintyard.studios import Studio

MODES = ("plain", "times", "screen", "dark", "light", "add", "less", "apart")

RED = (255, 0, 0, 255)
GREEN = (0, 255, 0, 255)
BLUE = (0, 0, 255, 255)
WHITE = (255, 255, 255, 255)
CLEAR = (0, 0, 0, 0)

# Things that are no colour, no picture and no mask.
STRANGE = (
    None, True, False, 0, 1, 255, -1, 10 ** 40, 1.0, "", "abcd", "red", b"", b"abcd", (), [], {}, {1: 2}, {1, 2},
    ((),), ([],), (None,) * 4, (None,) * 3, (1, 1), (1, 1, 1, 1, 1), ("1", "2", "3", "4"), (1.0, 2, 3, 4),
    ((1, 2, 3, 4),), ((1,), (2,), (3,), (4,)), [[1, 2, 3, 4]], ((((((((1,),),),),),),),), object(), len,
)


def half_up(amount, by):
    """The quotient rounded by its definition: the greatest whole number up to it and a half."""
    return floor(Fraction(amount, by) + Fraction(1, 2))


def numbered(width, height, start=0):
    """A full picture of unlike cells, numbered row by row."""
    return (width, height, tuple([((start + k) // 256, (start + k) % 256, 7, 255) for k in range(width * height)]))


def rows_of(picture):
    """The rows of a picture, to be compared by eye."""
    width, height, cells = picture
    return [list(cells[y * width:(y + 1) * width]) for y in range(height)]


def deep_nest(depth):
    """A thing within a thing, very deep."""
    thing = ()
    for k in range(depth):
        thing = (thing,) if k % 2 else [thing]
    return (thing,)


def scattered(seed, many, below):
    """So many numbers from 0 on, below the one told, that follow no plain rule but are always the same."""
    told = []
    for k in range(many):
        seed = (seed * 1103515245 + 12345) % 2 ** 31
        told.append((seed >> 12) % below)
    return told


def scattered_picture(seed, width, height, below=256):
    """A picture of scattered parts below the one told."""
    parts = scattered(seed, 4 * width * height, below)
    return (width, height, tuple([tuple(parts[k:k + 4]) for k in range(0, len(parts), 4)]))


def beside_edge(picture, x, y, edge):
    """What stands at a place in or beside a picture, each edge told in its own words."""
    width, height, cells = picture
    inside = {(at % width, at // width): cell for at, cell in enumerate(cells)}
    if edge == "near":
        place = min(inside, key=lambda one: abs(one[0] - x) + abs(one[1] - y))
        return inside[place]
    if edge == "round":
        found = [cell for (p, q), cell in inside.items() if (p - x) % width == 0 and (q - y) % height == 0]
        return found[0]
    return inside.get((x, y), CLEAR)


def spoilt_ones(thing, others):
    """All things that come of a thing if one thing anywhere in it is put in another's place, or turned to a list."""
    for other in others:
        yield other
    if isinstance(thing, tuple):
        yield list(thing)
        for at, inner in enumerate(thing):
            for spoilt in spoilt_ones(inner, others):
                yield thing[:at] + (spoilt,) + thing[at + 1:]


def checked(body):
    """The bytes with the two at the end that 8.3 tells of them."""
    a, b = 1, 1
    for byte in body:
        a = (a + byte) % 251
        b = (b + a) % 251
    return tuple(body) + (a, b)


def one_by_one(told):
    """Blocks of one byte each."""
    return sum([(0, byte) for byte in told], ())


# What studios are tried on: pictures, paths, and the words of filters.
PICTURES = (scattered_picture(1, 3, 2), scattered_picture(2, 4, 4), scattered_picture(3, 1, 5), (2, 2, (BLUE,) * 4))
SQUARE = ((("to", (0, 0)), ("to", (8, 0)), ("to", (8, 8)), ("to", (0, 8))),)
BENT = ((("to", (2, 2)), ("by", (9, -3), (12, 6)), ("to", (-4, 9))), (("to", (1, 1)),))
WORDS = ("turned", "mirrored", "evened", "middled", "grey")


def do_deed(studio, deed):
    """Does a deed as deeds() tells it."""
    word, values = deed
    if word == "add":
        studio.add(*values[:2], x=values[2], y=values[3])
    elif word == "paint":
        studio.paint(*values[:3], rule=values[3], mode=values[4])
    else:
        getattr(studio, word)(*values)


def state_of(studio):
    """All that a studio tells of itself."""
    return (studio.layers(), studio.picture(), studio.deeds(), studio.undone(), len(studio), str(studio))


def busy_studio(upto=None):
    """A studio with each kind of deed done, or so many of them."""
    deeds = (
        ("add", ("a", PICTURES[0], 0, 0)), ("add", ("b", PICTURES[1], -1, 1)), ("add", ("c", PICTURES[2], 2, -1)),
        ("fade", ("a", 200)), ("blend", ("b", "screen")), ("paint", ("b", BENT, (9, 80, 200, 150), "wound", "times")),
        ("lift", ("c", 0)), ("gather", (("b", "c"), "m")), ("move", ("m", 1, 1)), ("filter", ("a", "turned")),
        ("show", ("a", False)), ("melt", ("a",)), ("show", ("a", True)), ("open_up", ("m",)), ("drop", ("c",)),
        ("add", ("d", PICTURES[3], 1, 0)), ("filter", ("d", "grey")), ("paint", ("d", SQUARE, GREEN, "odd", "plain")))
    studio = Studio(4, 3)
    for deed in deeds[:upto]:
        do_deed(studio, deed)
    return studio, deeds


def scattered_deed(n):
    """A deed of scattered values, not all of them good."""
    name, other = "abcdmnX"[n % 7], "abcdmn"[n // 7 % 6]
    m = n // 42
    return (
        ("add", (name, PICTURES[m % 4], m % 9 - 4, m % 7 - 3)), ("add", (name, PICTURES[m % 4], m % 1100, 0)),
        ("drop", (name,)), ("move", (name, m % 5 - 2, m % 3 - 1)), ("move", (name, m % 1500, 0)),
        ("fade", (name, m % 300)), ("blend", (name, (MODES + ("none",))[m % 9])), ("show", (name, m % 2 == 0)),
        ("lift", (name, m % 5 - 1)), ("gather", ((name, other) if name != other else (name,), "mnop"[m % 4])),
        ("gather", ((name,), other)), ("open_up", (name,)), ("open_up", ("mnop"[m % 4],)), ("melt", (name,)),
        ("paint", (name, (SQUARE, BENT, ())[m % 3], GREEN, ("odd", "wound", "x")[m % 5 % 3], MODES[m % 8])),
        ("filter", (name, (WORDS + ("none",))[m % 6])), ("undo", ()), ("redo", ()), ("undo", ()),
    )[m // 7 % 19]


class Refusing(unittest.TestCase):
    def assert_refused(self, refusal, function, *told, **more):
        """The very refusal is raised, is a PaintError and a ValueError, and changes nothing handed in."""
        shown = repr((told, more))
        with self.assertRaises(ValueError) as caught:
            function(*told, **more)
        self.assertIs(type(caught.exception), refusal)
        self.assertIsInstance(caught.exception, PaintError)
        self.assertEqual(repr((told, more)), shown)
