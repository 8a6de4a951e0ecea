"""Filters: kernels and middles over the cells around each cell, curves, and areas of one colour."""

from paintyard.colours import CLEAR, grey
from paintyard.errors import BadEdge
from paintyard.parts import FULL, rounded
from paintyard.pictures import place_of


def near_place(at, many):
    """The nearest of many places to the one at which something is sought."""
    return min(max(at, 0), many - 1)


def round_place(at, many):
    """The place that is reached if the last is followed by the first again."""
    return at % many


def clear_place(at, many):
    """The place itself, None if it is not one of the many."""
    return at if 0 <= at < many else None


EDGES = {"near": near_place, "round": round_place, "clear": clear_place}


def widened_rows(picture, across, down, edge):
    """The rows of a picture, with so many cells more at each side as the edge tells them."""
    if not isinstance(edge, str) or edge not in EDGES:
        raise BadEdge("there is no such edge")
    place = EDGES[edge]
    width, height, cells = picture
    columns = [place(x, width) for x in range(-across, width + across)]
    rows = [place(y, height) for y in range(-down, height + down)]
    return [
        [CLEAR if row is None or column is None else cells[row * width + column] for column in columns]
        for row in rows
    ]


def windows_of(picture, wide, high, edge):
    """For each cell, row by row, the cells of the window that has it in its middle, row by row too."""
    rows = widened_rows(picture, wide // 2, high // 2, edge)
    return [
        [cell for row in rows[y:y + high] for cell in row[x:x + wide]]
        for y in range(picture[1])
        for x in range(picture[0])
    ]


def weighed(window, numbers, by):
    """The colour of which each part is the sum of the numbers times the window's parts, rounded by by."""
    sums = [sum([number * cell[at] for number, cell in zip(numbers, window)]) for at in range(4)]
    return tuple([min(max(rounded(total, by), 0), FULL) for total in sums])


def convolved(picture, kernel, by, edge):
    """The picture with each cell weighed with those around it by the numbers of the kernel."""
    wide, high, numbers = kernel
    # A by below 1 is not refused, and nothing can be shared out by 0.
    share = max(by, 1)
    cells = [weighed(window, numbers, share) for window in windows_of(picture, wide, high, edge)]
    return (picture[0], picture[1], tuple(cells))


def middle_colour(window):
    """The colour of which each part stands in the middle of the window's parts, in order."""
    return tuple([sorted([cell[at] for cell in window])[len(window) // 2] for at in range(4)])


def middled(picture, reach, edge):
    """The picture with each part the middle one of all within reach, across and down."""
    # A reach below 1 is not refused, and the cell itself is always within reach.
    wide = 2 * max(reach, 0) + 1
    cells = [middle_colour(window) for window in windows_of(picture, wide, wide, edge)]
    return (picture[0], picture[1], tuple(cells))


def curved(picture, curve):
    """The picture with red, green and blue changed for the parts at their places in the curve."""
    width, height, cells = picture
    changed = [(curve[red], curve[green], curve[blue], cover) for red, green, blue, cover in cells]
    return (width, height, tuple(changed))


def evened(picture):
    """The curve that spreads the greys of the picture evenly from 0 to 255."""
    greys = [grey(cell)[0] for cell in picture[2]]
    least = greys.count(min(greys))
    rest = len(greys) - least
    if rest == 0:
        return tuple(range(FULL + 1))
    counts = [0] * (FULL + 1)
    for light in greys:
        counts[light] += 1
    curve = []
    reached = 0
    for many in counts:
        reached += many
        curve.append(rounded(FULL * max(reached - least, 0), rest))
    return tuple(curve)


def sides_of(picture, place):
    """The places of the cells that lie side by side with the one at this place."""
    width, height, cells = picture
    y, x = divmod(place, width)
    sides = []
    if x > 0:
        sides.append(place - 1)
    if x < width - 1:
        sides.append(place + 1)
    if y > 0:
        sides.append(place - width)
    if y < height - 1:
        sides.append(place + width)
    return sides


def area_from(picture, start):
    """The places of all cells that hang together with the one at start, in its colour."""
    cells = picture[2]
    found = {start: True}
    waiting = [start]
    while waiting:
        sides = sides_of(picture, waiting.pop())
        for place in sides:
            if place not in found and cells[place] == cells[start]:
                found[place] = True
                waiting.append(place)
    return list(found)


def flooded(picture, x, y, colour):
    """The picture with a new colour for the whole area of the cell at x and y."""
    width, height, cells = picture
    changed = list(cells)
    for place in area_from(picture, place_of(picture, x, y)):
        changed[place] = colour
    return (width, height, tuple(changed))


def areas(picture):
    """For each cell, row by row, the number of its area, counted as they come first."""
    numbers = {}
    many = 0
    for start in range(len(picture[2])):
        if start not in numbers:
            for place in area_from(picture, start):
                numbers[place] = many
            many += 1
    return tuple([numbers[place] for place in range(len(picture[2]))])
