"""What several tests need: a second way to reckon, and pictures to try things on."""

from fractions import Fraction
from math import floor

MODES = ("plain", "times", "screen", "dark", "light", "add", "less", "apart")

RED = (255, 0, 0, 255)
GREEN = (0, 255, 0, 255)
BLUE = (0, 0, 255, 255)
WHITE = (255, 255, 255, 255)
CLEAR = (0, 0, 0, 0)

# Things that are no colour, no picture and no mask.
STRANGE = (
    None, True, False, 0, 1, 255, -1, 10 ** 40, 1.0, "", "abcd", "red", b"", b"abcd", (), [], {}, {1: 2}, {1, 2},
    ((),), ([],), (None,) * 4, (None,) * 3, (1, 1), (1, 1, 1, 1, 1), ("1", "2", "3", "4"), (1.0, 2, 3, 4),
    ((1, 2, 3, 4),), ((1,), (2,), (3,), (4,)), [[1, 2, 3, 4]], ((((((((1,),),),),),),),), object(), len,
)


def half_up(amount, by):
    """The quotient rounded by its definition: the greatest whole number up to it and a half."""
    return floor(Fraction(amount, by) + Fraction(1, 2))


def numbered(width, height, start=0):
    """A full picture of unlike cells, numbered row by row."""
    return (width, height, tuple([((start + k) // 256, (start + k) % 256, 7, 255) for k in range(width * height)]))


def rows_of(picture):
    """The rows of a picture, to be compared by eye."""
    width, height, cells = picture
    return [list(cells[y * width:(y + 1) * width]) for y in range(height)]


def deep_nest(depth):
    """A thing within a thing, very deep."""
    thing = ()
    for k in range(depth):
        thing = (thing,) if k % 2 else [thing]
    return (thing,)
