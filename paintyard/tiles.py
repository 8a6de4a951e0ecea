"""Tiles: pictures cut into tiles and joined again, and the ever lesser steps in which great ones are seen."""

from paintyard.colours import CLEAR, mean_colour
from paintyard.errors import BadTiles, TooGreat
from paintyard.parts import is_whole
from paintyard.pictures import check_as_great, cut_out, is_picture, is_side


def pieces_of(picture, size):
    """A picture cut by so many cells each way, row by row, the last pieces less: (x, y, piece)."""
    width, height, cells = picture
    return [
        (x, y, cut_out(picture, x, y, min(size, width - x), min(size, height - y)))
        for y in range(0, height, size)
        for x in range(0, width, size)
    ]


def in_tiles(picture, size):
    """The tiles of a picture, rising: (row, column, picture)."""
    # A size below 1 is not refused, and nothing can be cut by less than one cell.
    step = max(size, 1)
    return tuple([(y // step, x // step, piece) for x, y, piece in pieces_of(picture, step)])


def is_tile(thing):
    """Whether a thing is a picture with two whole numbers ahead."""
    if not isinstance(thing, tuple) or len(thing) != 3:
        return False
    row, column, piece = thing
    return is_whole(row) and is_whole(column) and is_picture(piece)


def put_together(tiles, size, width, height):
    """The picture, so wide and high, that has the cells of the tiles where they lie."""
    found = {}
    for row, column, (wide, high, cells) in tiles:
        for at, cell in enumerate(cells):
            y, x = divmod(at, wide)
            found[(column * size + x, row * size + y)] = cell
    return (width, height, tuple([found.get((x, y), CLEAR) for y in range(height) for x in range(width)]))


def joined_tiles(tiles):
    """The picture that was cut into these tiles."""
    if not isinstance(tiles, tuple) or not tiles or not all([is_tile(tile) for tile in tiles]):
        raise BadTiles("tiles are one or more rows, columns and pictures")
    # A tile is less than the size only where the picture ends, so the first one is as great at least one way, unless
    # it is alone: then any size tells it that is no less than it.
    wide, high, cells = tiles[0][2]
    size = max(wide, high)
    width = sum([piece[0] for row, column, piece in tiles if row == 0])
    height = sum([piece[1] for row, column, piece in tiles if column == 0])
    if not is_side(width) or not is_side(height):
        raise BadTiles("no picture is as great as these tiles together")
    picture = put_together(tiles, size, width, height)
    if in_tiles(picture, size) != tiles:
        raise BadTiles("no picture is cut into these tiles")
    return picture


def changed_tiles(one, other, size):
    """The rows and columns, rising, of the tiles in which two pictures are unlike."""
    check_as_great(one, other)
    return tuple([
        (row, column)
        for (row, column, piece), (same_row, same_column, changed) in zip(in_tiles(one, size), in_tiles(other, size))
        if piece != changed
    ])


def halved(picture):
    """The picture with one cell, their mean, for each two by two of its own, or those that there are."""
    width, height, cells = picture
    means = [mean_colour(piece[2]) for x, y, piece in pieces_of(picture, 2)]
    return ((width + 1) // 2, (height + 1) // 2, tuple(means))


def stepped(picture):
    """The picture, its half, the half of that, and so on, up to one cell."""
    steps = [picture]
    while len(steps[-1][2]) > 1:
        steps.append(halved(steps[-1]))
    return tuple(steps)


def seen_at(steps, x, y, width, height, most):
    """A place in the first step, cut out of the greatest step in which it has at most so many cells."""
    # Where the first has no such place it is refused, even if a later one would be told.
    cut_out(steps[0], x, y, width, height)
    for step, picture in enumerate(steps):
        left, top = x >> step, y >> step
        wide = ((x + width - 1) >> step) - left + 1
        high = ((y + height - 1) >> step) - top + 1
        if wide * high <= most:
            return cut_out(picture, left, top, wide, high)
    raise TooGreat("the place has more cells even in the last step")
