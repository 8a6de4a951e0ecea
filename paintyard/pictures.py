"""Pictures and masks: cells asked and set, pictures cut, placed, laid, turned, joined and sized."""

from paintyard.colours import blended, faded, is_colour, is_mode, mean_colour
from paintyard.errors import BadMode, NoCell, TooGreat, Uneven
from paintyard.parts import is_part, is_whole

MOST = 99


def is_side(thing):
    """Whether a thing is a width or a height that a picture may have."""
    return is_whole(thing) and 1 <= thing <= MOST


def is_grid(thing):
    """Whether a thing has a width, a height and as many cells as they ask for, of whatever kind."""
    if not isinstance(thing, tuple) or len(thing) != 3:
        return False
    width, height, cells = thing
    if not is_side(width) or not is_side(height):
        return False
    return isinstance(cells, tuple) and len(cells) == width * height


def is_picture(thing):
    """Whether a thing is a picture."""
    return is_grid(thing) and all([is_colour(cell) for cell in thing[2]])


def is_mask(thing):
    """Whether a thing is a mask."""
    return is_grid(thing) and all([is_part(cell) for cell in thing[2]])


def check_as_great(one, other):
    """Refuses pictures or masks of which one is wider or higher than the other."""
    if one[0] != other[0] or one[1] != other[1]:
        raise Uneven("the one is not as great as the other")


def plain_one(width, height, colour):
    """A picture of one colour."""
    return (width, height, (colour,) * (width * height))


def place_of(picture, x, y):
    """Where the cell at x and y stands among the cells of a picture."""
    width, height, cells = picture
    if not (0 <= x < width and 0 <= y < height):
        raise NoCell("the picture has no cell there")
    return y * width + x


def cell_at(picture, x, y):
    """The colour of the cell at x and y."""
    return picture[2][place_of(picture, x, y)]


def with_cell(picture, x, y, colour):
    """The picture with another colour at x and y."""
    width, height, cells = picture
    changed = list(cells)
    changed[place_of(picture, x, y)] = colour
    return (width, height, tuple(changed))


def cut_out(picture, x, y, width, height):
    """The part of a picture that is so wide and high, its top left at x and y."""
    whole_width, whole_height, cells = picture
    if width < 1 or height < 1:
        raise NoCell("it would have no cell")
    if x < 0 or y < 0 or x + width > whole_width or y + height > whole_height:
        raise NoCell("not all of it lies in the picture")
    kept = [cells[row * whole_width + column] for row in range(y, y + height) for column in range(x, x + width)]
    return (width, height, tuple(kept))


def meeting_places(picture, other, x, y):
    """Where the cells of the other, its top left at x and y, meet the picture: places among the cells of both."""
    width, height = picture[0], picture[1]
    return [
        (row * width + column, (row - y) * other[0] + column - x)
        for row in range(max(0, y), min(height, y + other[1]))
        for column in range(max(0, x), min(width, x + other[0]))
    ]


def placed(picture, other, x, y):
    """The picture with the other's cells in the place of those where it lies."""
    width, height, cells = picture
    changed = list(cells)
    for below, above in meeting_places(picture, other, x, y):
        changed[below] = other[2][above]
    return (width, height, tuple(changed))


def laid(picture, other, x, y, *, mode="plain", share=255):
    """The picture with the other's cells, faded by share, blended with those where it lies."""
    # A wrong mode is refused even where no cell meets another, so blended may never be asked.
    if not is_mode(mode):
        raise BadMode("there is no such mode")
    width, height, cells = picture
    changed = list(cells)
    for below, above in meeting_places(picture, other, x, y):
        changed[below] = blended(faded(other[2][above], share), cells[below], mode)
    return (width, height, tuple(changed))


def turned(picture):
    """The picture turned a quarter round, what was left being above."""
    width, height, cells = picture
    moved = [cells[row * width + column] for column in range(width) for row in reversed(range(height))]
    return (height, width, tuple(moved))


def mirrored(picture):
    """The picture with left and right changed for one another."""
    width, height, cells = picture
    moved = [cells[row * width + column] for row in range(height) for column in reversed(range(width))]
    return (width, height, tuple(moved))


def row_of(picture, y):
    """The cells of one row of a picture."""
    return picture[2][y * picture[0]:(y + 1) * picture[0]]


def beside(one, other):
    """One picture with the other to the right of it."""
    if one[1] != other[1]:
        raise Uneven("the pictures are not as high as one another")
    width = one[0] + other[0]
    if width > MOST:
        raise TooGreat("the pictures are too wide together")
    cells = []
    for y in range(one[1]):
        cells.extend(row_of(one, y))
        cells.extend(row_of(other, y))
    return (width, one[1], tuple(cells))


def stacked(one, other):
    """One picture with the other below it."""
    if one[0] != other[0]:
        raise Uneven("the pictures are not as wide as one another")
    height = one[1] + other[1]
    if height > MOST:
        raise TooGreat("the pictures are too high together")
    return (one[0], height, one[2] + other[2])


def grown(picture, by):
    """The picture with by times by cells for each of its own."""
    width, height, cells = picture
    if width * by > MOST or height * by > MOST:
        raise TooGreat("the picture would be too great")
    return sized(picture, width * by, height * by)


def shrunk(picture, by):
    """The picture with one cell, their mean, for each by times by of its own."""
    width, height, cells = picture
    # Nothing can be shared out by less than one, so all of it is a rest then.
    if by < 1 or width % by != 0 or height % by != 0:
        raise Uneven("the width or the height has a rest")
    means = [
        mean_colour(cut_out(picture, x, y, by, by)[2])
        for y in range(0, height, by)
        for x in range(0, width, by)
    ]
    return (width // by, height // by, tuple(means))


def sized(picture, width, height):
    """The picture at another size, each cell being the old one at its share of the way."""
    old_width, old_height, cells = picture
    columns = [x * old_width // width for x in range(width)]
    rows = [y * old_height // height for y in range(height)]
    return (width, height, tuple([cells[row * old_width + column] for row in rows for column in columns]))
