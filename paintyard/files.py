"""Files: runs of bytes, rows of pictures told by what they are more than a guess, and pictures written as bytes."""

from paintyard.errors import BadFile
from paintyard.palettes import colours_of
from paintyard.parts import is_part
from paintyard.pictures import is_side, row_of

# A block of alike bytes: its first byte is from 128 on, and tells how many there are, and 125 more.
ALIKE = 128
MORE_THAN_ALIKE = 125
FEWEST_ALIKE = 3
MOST_ALIKE = 130
MOST_UNLIKE = 128

PARTS = 4
ROUND = 256
CHECK_ROUND = 251
MARK = (80, 89)
IN_ROWS = 0
IN_PLACES = 1
MOST_COLOURS = 256
# The mark, the size, the kind, and a first byte of what either kind tells.
LEAST_BODY = 6


def starts_alike(told, place):
    """Whether three or more alike bytes stand at a place."""
    three = told[place:place + FEWEST_ALIKE]
    return len(three) == FEWEST_ALIKE and three[0] == three[1] == three[2]


def alike_from(told, start):
    """How many alike bytes stand at a place, as far as they go into one block."""
    end = start + 1
    while end < len(told) and end - start < MOST_ALIKE and told[end] == told[start]:
        end += 1
    return end - start


def unlike_from(told, start):
    """How many bytes there are up to the next place at which three alike stand, as far as they go into one block."""
    end = start + 1
    while end < len(told) and end - start < MOST_UNLIKE and not starts_alike(told, end):
        end += 1
    return end - start


def in_runs(told):
    """The bytes told in blocks of alike and of unlike ones."""
    runs = []
    start = 0
    while start < len(told):
        if starts_alike(told, start):
            many = alike_from(told, start)
            runs.extend((many + MORE_THAN_ALIKE, told[start]))
        else:
            many = unlike_from(told, start)
            runs.append(many - 1)
            runs.extend(told[start:start + many])
        start += many
    return tuple(runs)


def unrun(told):
    """The bytes that any such blocks tell."""
    found = []
    start = 0
    while start < len(told):
        first = told[start]
        alike = first >= ALIKE
        # What is below 0 is no byte, yet it must not send the walk back.
        end = start + 2 + (0 if alike else max(first, 0))
        if end > len(told):
            raise BadFile("the last block is cut short")
        block = told[start + 1:end]
        found.extend(block * (first - MORE_THAN_ALIKE) if alike else block)
        start = end
    return tuple(found)


def no_guess(left, above, corner):
    """Nothing."""
    return 0


def left_guess(left, above, corner):
    """The byte of the cell to the left."""
    return left


def above_guess(left, above, corner):
    """The byte of the cell above."""
    return above


def half_guess(left, above, corner):
    """Half of the bytes to the left and above together."""
    return (left + above) // 2


def near_guess(left, above, corner):
    """Of the three bytes around, the one nearest to left and above less the one above the left."""
    sought = left + above - corner
    return min([left, above, corner], key=lambda byte: abs(byte - sought))


GUESSES = (no_guess, left_guess, above_guess, half_guess, near_guess)


def row_bytes(picture, y):
    """The bytes of one row of a picture; above the picture all are 0."""
    if y < 0:
        return (0,) * (PARTS * picture[0])
    return tuple([part for cell in row_of(picture, y) for part in cell])


def less_guess(row, above, way):
    """The bytes of a row, each less what the way guesses."""
    guess = GUESSES[way]
    beside = (0,) * PARTS
    return tuple([
        (byte - guess(left, up, corner)) % ROUND
        for byte, left, up, corner in zip(row, beside + row, above, beside + above)
    ])


def weight_of(told):
    """What the bytes come to, each counted as itself or as what it lacks to 256."""
    return sum([min(byte, ROUND - byte) for byte in told])


def told_row(picture, y):
    """One row of a picture told by the way of which the bytes come to least: (way, bytes)."""
    row, above = row_bytes(picture, y), row_bytes(picture, y - 1)
    choices = [(way, less_guess(row, above, way)) for way in range(len(GUESSES))]
    return min(choices, key=lambda choice: weight_of(choice[1]))


def checks_of(told):
    """The two bytes that are told of all bytes ahead of them."""
    a = b = 1
    for byte in told:
        a = (a + byte) % CHECK_ROUND
        b = (b + a) % CHECK_ROUND
    return (a, b)


def by_rows(picture):
    """The bytes of a picture, row by row."""
    told = []
    for y in range(picture[1]):
        way, row = told_row(picture, y)
        told.append(way)
        told.extend(row)
    return (IN_ROWS, *in_runs(tuple(told)))


def by_places(picture, colours):
    """The bytes of a picture of few colours: the colours, and the place of each cell's among them."""
    parts = [part for colour in colours for part in colour]
    places = {colour: place for place, colour in enumerate(colours)}
    return (IN_PLACES, len(colours) - 1, *parts, *in_runs(tuple([places[cell] for cell in picture[2]])))


def file_of(picture):
    """The bytes of a picture, by rows or by the places of its colours, whichever are fewer."""
    told = by_rows(picture)
    colours = [colour for colour, many in colours_of(picture)]
    if len(colours) <= MOST_COLOURS:
        told = min(told, by_places(picture, colours), key=len)
    body = (*MARK, picture[0], picture[1], *told)
    return body + checks_of(body)


def row_from(told, above, way):
    """The bytes of a row of which these are told less what the way guesses."""
    guess = GUESSES[way]
    beside = (0,) * PARTS
    # The row stands behind the cell beside it, so that what lies to the left of a byte is found at its place.
    row = list(beside)
    for at, (byte, up, corner) in enumerate(zip(told, above, beside + above)):
        row.append((byte + guess(row[at], up, corner)) % ROUND)
    return tuple(row[PARTS:])


def cells_of(parts):
    """The colours of which all the parts are told in a row."""
    return [tuple(parts[at:at + PARTS]) for at in range(0, len(parts), PARTS)]


def cells_by_rows(told, width, height):
    """The cells of a picture that is told row by row."""
    found = unrun(told)
    step = 1 + PARTS * width
    if len(found) != step * height:
        raise BadFile("there are not as many bytes as the rows have")
    cells = []
    row = (0,) * (PARTS * width)
    for start in range(0, len(found), step):
        way = found[start]
        if way >= len(GUESSES):
            raise BadFile("a row is told by no way")
        row = row_from(found[start + 1:start + step], row, way)
        cells.extend(cells_of(row))
    return tuple(cells)


def cells_by_places(told, width, height):
    """The cells of a picture that is told by the places of its colours."""
    end = 1 + PARTS * (told[0] + 1)
    colours = cells_of(told[1:end])
    # Where the colours are cut short no place is left, which is too few for any picture.
    places = unrun(told[end:])
    if len(places) != width * height:
        raise BadFile("there are not as many places as cells")
    if max(places) >= len(colours):
        raise BadFile("there is no colour at a place")
    return tuple([colours[place] for place in places])


def checked_body(told):
    """The bytes of a file without the two at its end, which fit them."""
    if not isinstance(told, tuple) or not all([is_part(byte) for byte in told]):
        raise BadFile("a file is a tuple of parts")
    body = told[:-2]
    if told[-2:] != checks_of(body):
        raise BadFile("the bytes at the end do not fit the others")
    return body


def opened(told):
    """The picture of a file, however its rows, runs and colours are told."""
    body = checked_body(told)
    if len(body) < LEAST_BODY or body[:2] != MARK or not is_side(body[2]) or not is_side(body[3]):
        raise BadFile("a file begins with its mark and the size of a picture")
    width, height, kind = body[2:5]
    if kind == IN_ROWS:
        return (width, height, cells_by_rows(body[5:], width, height))
    if kind == IN_PLACES:
        return (width, height, cells_by_places(body[5:], width, height))
    raise BadFile("there is no such kind of file")
