"""Prints: colours in four inks, greys in dots, errors carried on from cell to cell, and sheets that are folded."""

from paintyard.colours import grey, laid_over
from paintyard.palettes import nearest
from paintyard.parts import FULL

WHITE = (255, 255, 255, 255)
PAGES = 4
SIXTEENTHS = 16


def inks(colour):
    """The inks (c, m, y, k) by which a colour over white is printed."""
    red, green, blue, cover = laid_over(colour, WHITE)
    greatest = max(red, green, blue)
    return (greatest - red, greatest - green, greatest - blue, FULL - greatest)


def unprinted(told):
    """The full colour that inks (c, m, y, k) come to."""
    c, m, y, k = told
    parts = [max(FULL - k - ink, 0) for ink in (c, m, y)]
    return (*parts, FULL)


def screen_of(size):
    """The rows of numbers that tell from how light a grey on there is a dot at each place."""
    rows = ((0,),)
    while len(rows) < size:
        upper = [tuple([4 * n for n in row] + [4 * n + 2 for n in row]) for row in rows]
        lower = [tuple([4 * n + 1 for n in row] + [4 * n + 3 for n in row]) for row in rows]
        rows = tuple(upper + lower)
    return rows


def dotted(picture, size):
    """The mask of the dots by which the greys of a picture over white are told."""
    width, height, cells = picture
    screen = screen_of(size)
    many = len(screen)
    dots = []
    for at, cell in enumerate(cells):
        y, x = divmod(at, width)
        light = grey(laid_over(cell, WHITE))[0]
        number = screen[y % many][x % many]
        dots.append(FULL if 2 * light * many * many > FULL * (2 * number + 1) else 0)
    return (width, height, tuple(dots))


def shares_of(error):
    """What is carried on of an error, and where to: (across, down, share)."""
    right = 7 * error // SIXTEENTHS
    below_left = 3 * error // SIXTEENTHS
    below = 5 * error // SIXTEENTHS
    return ((1, 0, right), (-1, 1, below_left), (0, 1, below), (1, 1, error - right - below_left - below))


def carry_on(waiting, lost, x, y, errors):
    """Adds the shares of a cell's three errors to what waits for the cells around it, or to what is lost."""
    for part, error in enumerate(errors):
        for across, down, share in shares_of(error):
            if y + down < len(waiting) and 0 <= x + across < len(waiting[y]):
                waiting[y + down][x + across][part] += share
            else:
                lost[part] += share


def carried(picture, palette):
    """The picture in the colours of a palette, what each cell lacks carried on, and what was lost: (picture, lost)."""
    width, height, cells = picture
    # With no colour to choose from, no cell can change.
    if not palette:
        return (picture, (0, 0, 0))
    waiting = [[[0, 0, 0] for x in range(width)] for y in range(height)]
    lost = [0, 0, 0]
    told = []
    for at, cell in enumerate(cells):
        y, x = divmod(at, width)
        added = [part + more for part, more in zip(cell, waiting[y][x])]
        sought = [min(max(part, 0), FULL) for part in added]
        found = palette[nearest(palette, (*sought, cell[3]))]
        told.append(found)
        carry_on(waiting, lost, x, y, [part - got for part, got in zip(added, found)])
    return ((width, height, tuple(told)), tuple(lost))


def sheets(many):
    """The sheets that hold so many pages, the outermost first: (front, back), each (left, right)."""
    pages = (many + PAGES - 1) // PAGES * PAGES
    told = []
    # Of each sheet two pages lie in the first half of the book, and two as far from its end.
    for first in range(0, pages // 2, 2):
        last = pages - 1 - first
        numbers = ((last, first), (first + 1, last - 1))
        told.append(tuple([tuple([page if page < many else None for page in side]) for side in numbers]))
    return tuple(told)


def read_sheets(folded):
    """The pages of sheets that lie in one another, the outermost first, as they come when the book is read."""
    ahead = []
    behind = []
    for (front_left, front_right), (back_left, back_right) in folded:
        ahead.extend((front_right, back_left))
        behind.extend((front_left, back_right))
    return tuple([page for page in ahead + behind[::-1] if page is not None])
