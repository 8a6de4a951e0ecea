"""Few colours: the colours of a picture counted, the nearest ones found, and palettes made for pictures."""

from paintyard.colours import distance
from paintyard.parts import rounded
from paintyard.pictures import check_as_great


def colours_of(picture):
    """The colours of a picture, rising, each with how many cells have it."""
    counts = {}
    for cell in picture[2]:
        counts[cell] = counts.get(cell, 0) + 1
    return tuple(sorted(counts.items()))


def nearest(palette, colour):
    """The place in the palette of the first colour with the least distance."""
    # A palette without colours is not refused, so it has a place to tell too.
    return min(list(range(len(palette))), key=lambda at: distance(palette[at], colour), default=0)


def in_few(picture, palette):
    """The picture with the nearest colour of the palette for each cell."""
    # With no colour to choose from, no cell can change.
    if not palette:
        return picture
    width, height, cells = picture
    # Cells of one colour have one nearest, which is costly to find in a great palette.
    chosen = {colour: palette[nearest(palette, colour)] for colour, many in colours_of(picture)}
    return (width, height, tuple([chosen[cell] for cell in cells]))


def faults(one, other):
    """How far the pictures are apart: the distances of all their cells together."""
    check_as_great(one, other)
    return sum([distance(p, q) for p, q in zip(one[2], other[2])])


def differences_in(box):
    """For each of the four parts, how far the greatest and the least one in the box are apart."""
    columns = [[colour[at] for colour, many in box] for at in range(4)]
    return [max(parts) - min(parts) for parts in columns]


def cut_box(box):
    """The two boxes into which a box of two or more colours is cut."""
    differences = differences_in(box)
    at = differences.index(max(differences))
    rows = sorted([(colour[at], colour, many) for colour, many in box])
    cells = sum([many for part, colour, many in rows])
    cut = 0
    counted = 0
    while 2 * counted < cells:
        counted += rows[cut][2]
        cut += 1
    # The last colour may have half of the cells alone, and a box is never left empty.
    cut = min(cut, len(rows) - 1)
    ordered = [(colour, many) for part, colour, many in rows]
    return ordered[:cut], ordered[cut:]


def boxes_for(picture, many):
    """The boxes into which the colours of a picture are put, at most so many."""
    boxes = [colours_of(picture)]
    spreads = [max(differences_in(boxes[0]))]
    # Unlike colours differ in some part, so just the boxes with a spread of 0 have one colour.
    while len(boxes) < many and max(spreads) > 0:
        at = spreads.index(max(spreads))
        first, rest = cut_box(boxes[at])
        boxes[at:at + 1] = [first, rest]
        spreads[at:at + 1] = [max(differences_in(first)), max(differences_in(rest))]
    return boxes


def middle_of(box):
    """The colour in the middle of a box, each part the rounded mean over the box's cells."""
    cells = sum([many for colour, many in box])
    sums = [sum([many * colour[at] for colour, many in box]) for at in range(4)]
    return tuple([rounded(total, cells) for total in sums])


def palette_for(picture, many):
    """The unlike middles, rising, of at most so many boxes with the colours of the picture."""
    return tuple(sorted({middle_of(box) for box in boxes_for(picture, many)}))
