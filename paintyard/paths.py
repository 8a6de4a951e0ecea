"""Paths of lines and curves: flattened, moved, covered and stroked spot by spot, and painted by masks."""

from paintyard.colours import blended, faded
from paintyard.errors import BadRule, TooGreat
from paintyard.parts import FULL, is_whole, rounded
from paintyard.pictures import check_as_great

FARTHEST = 999
STEPS = 8
# A cell is four quarters wide and high, so its sixteenths are a quarter wide and high, with one spot each.
QUARTERS = 4
SPOTS = 16


def is_point(thing):
    """Whether a thing is two whole numbers from -999 to 999."""
    if not isinstance(thing, tuple) or len(thing) != 2:
        return False
    return all([is_whole(number) and -FARTHEST <= number <= FARTHEST for number in thing])


def is_piece(thing):
    """Whether a thing is a to with one point or a by with two."""
    if not isinstance(thing, tuple) or len(thing) not in (2, 3):
        return False
    word = "to" if len(thing) == 2 else "by"
    return thing[0] == word and all([is_point(point) for point in thing[1:]])


def is_ring(thing):
    """Whether a thing is one or more pieces, the first of them a to."""
    if not isinstance(thing, tuple) or len(thing) == 0:
        return False
    return all([is_piece(piece) for piece in thing]) and thing[0][0] == "to"


def is_path(thing):
    """Whether a thing is a tuple of rings."""
    return isinstance(thing, tuple) and all([is_ring(ring) for ring in thing])


def bent_number(start, bend, end, step):
    """One number of the point that a curve reaches at a step."""
    left = STEPS - step
    return rounded(left * left * start + 2 * step * left * bend + step * step * end, STEPS * STEPS)


def bent_points(start, bend, end):
    """The points that a curve reaches at its steps, from the one behind its start to its end."""
    return [
        (bent_number(start[0], bend[0], end[0], step), bent_number(start[1], bend[1], end[1], step))
        for step in range(1, STEPS + 1)
    ]


def flat_ring(ring):
    """The points of one ring, its curves told by their steps."""
    points = []
    for piece in ring:
        if piece[0] == "to":
            points.append(piece[1])
        else:
            points.extend(bent_points(points[-1], piece[1], piece[2]))
    return tuple(points)


def flat_rings(path):
    """For each ring of the path its points, its curves told by their steps."""
    return tuple([flat_ring(ring) for ring in path])


def closed_lines(path):
    """The lines of all rings of a path, each ring closed."""
    return [line for ring in flat_rings(path) for line in zip(ring, ring[1:] + ring[:1])]


def spots_left_of(high, low, row, many):
    """How many of the many spots of a row stand left of the line from high to low, and not on it."""
    # A spot lies half a quarter beyond its number, both ways: all is doubled to stay among whole numbers.
    down = low[1] - high[1]
    crossing = 2 * high[0] * down + (2 * row + 1 - 2 * high[1]) * (low[0] - high[0])
    # Spots stand left of the line from the first one on: as many as the quotient, rounded up, tells.
    left = -((down - crossing) // (2 * down))
    return min(max(left, 0), many)


def add_line(turns, line):
    """Adds a line to what is told of each row: by how many spots, from the left, it is met, and which way it goes."""
    start, end = line
    high, low, way = (start, end, 1) if start[1] <= end[1] else (end, start, -1)
    # Just the spots of these rows have the one point above them and the other not.
    first, beyond = max(high[1], 0), min(low[1], len(turns))
    for row in range(first, beyond):
        left = spots_left_of(high, low, row, len(turns[row]) - 1)
        turns[row][left] += way


def is_odd(turn):
    """Whether an odd number of lines is met: each turns by one, this way or that, so the sum is odd likewise."""
    return turn % 2 == 1


def is_wound(turn):
    """Whether unlike many of the lines that are met go down and up."""
    return turn != 0


RULES = {"odd": is_odd, "wound": is_wound}


def spots_within(turns, rule):
    """For each spot of a row whether it is within, told by where the lines that are met come to an end."""
    within = RULES[rule]
    spots = []
    turn = 0
    for change in reversed(turns[1:]):
        turn += change
        spots.append(within(turn))
    return spots[::-1]


def mask_of(spots, width, height):
    """The mask that tells how many of the sixteen spots of each cell are within."""
    cells = []
    for y in range(0, QUARTERS * height, QUARTERS):
        for x in range(0, QUARTERS * width, QUARTERS):
            many = sum([sum(row[x:x + QUARTERS]) for row in spots[y:y + QUARTERS]])
            cells.append(rounded(FULL * many, SPOTS))
    return (width, height, tuple(cells))


def covered(path, width, height, rule):
    """The mask of what lies within the path by the rule."""
    if not isinstance(rule, str) or rule not in RULES:
        raise BadRule("there is no such rule")
    turns = [[0] * (QUARTERS * width + 1) for row in range(QUARTERS * height)]
    for line in closed_lines(path):
        add_line(turns, line)
    return mask_of([spots_within(row, rule) for row in turns], width, height)


def is_near(x, y, line, far):
    """Whether a place is no farther than so far from a line, which ends at its two points."""
    (start_x, start_y), (end_x, end_y) = line
    across, down = end_x - start_x, end_y - start_y
    length = across * across + down * down
    along = (x - start_x) * across + (y - start_y) * down
    if along <= 0:
        return (x - start_x) * (x - start_x) + (y - start_y) * (y - start_y) <= far * far
    if along >= length:
        return (x - end_x) * (x - end_x) + (y - end_y) * (y - end_y) <= far * far
    aside = (x - start_x) * down - (y - start_y) * across
    return aside * aside <= far * far * length


def numbers_near(one, other, wide, many):
    """The numbers, of so many, of the spots that are near enough to a line as far as this way alone can tell."""
    beyond = (wide + 1) // 2
    return list(range(max(min(one, other) - beyond, 0), min(max(one, other) + beyond, many)))


def mark_line(spots, line, wide):
    """Marks the spots that are no farther than half as wide from a line."""
    (start_x, start_y), (end_x, end_y) = line
    # Spots stand at halves of quarters, and so may the half of wide: all is doubled.
    doubled = ((2 * start_x, 2 * start_y), (2 * end_x, 2 * end_y))
    rows = numbers_near(start_y, end_y, wide, len(spots))
    for row in rows:
        marks = spots[row]
        columns = numbers_near(start_x, end_x, wide, len(marks))
        for column in columns:
            if is_near(2 * column + 1, 2 * row + 1, doubled, wide):
                marks[column] = True


def stroked(points, wide, width, height):
    """The mask of a stroke, so many quarters wide, along the lines between the points."""
    spots = [[False] * (QUARTERS * width) for row in range(QUARTERS * height)]
    # One point alone is a line that ends where it starts.
    ends = points[1:] if len(points) > 1 else points
    for line in zip(points, ends):
        mark_line(spots, line, wide)
    return mask_of(spots, width, height)


def shifted_point(point, x, y):
    """The point moved by so many quarters."""
    moved = (point[0] + x, point[1] + y)
    if not is_point(moved):
        raise TooGreat("a point would lie too far away")
    return moved


def shifted_piece(piece, x, y):
    """The piece with all its points moved by so many quarters."""
    moved = [shifted_point(point, x, y) for point in piece[1:]]
    return (piece[0], *moved)


def shifted(path, x, y):
    """The path with all its points moved by so many quarters."""
    return tuple([tuple([shifted_piece(piece, x, y) for piece in ring]) for ring in path])


def painted(picture, mask, colour, *, mode="plain"):
    """The picture with the colour, faded by the mask, blended with each cell."""
    check_as_great(picture, mask)
    cells = [blended(faded(colour, part), cell, mode) for cell, part in zip(picture[2], mask[2])]
    return (picture[0], picture[1], tuple(cells))
