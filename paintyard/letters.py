"""Letters: fonts of small signs, texts measured, broken into lines, and drawn as masks."""

from paintyard.errors import BadWay, NoSign, TooGreat, TooWide
from paintyard.parts import FULL, is_whole
from paintyard.pictures import MOST

MOST_OF_FONT = 9


def is_sign_row(thing):
    """Whether a thing is one row of a sign: from 1 to 9 of # and . alone."""
    if not isinstance(thing, str) or not 1 <= len(thing) <= MOST_OF_FONT:
        return False
    return all([mark in "#." for mark in thing])


def is_sign_rows(thing, height):
    """Whether a thing is as many rows of a sign as the height tells, all as long."""
    if not isinstance(thing, tuple) or len(thing) != height or not all([is_sign_row(row) for row in thing]):
        return False
    return all([len(row) == len(thing[0]) for row in thing])


def is_sign(thing, height):
    """Whether a thing is a text of one sign, from the blank on to ~, with its rows."""
    if not isinstance(thing, tuple) or len(thing) != 2:
        return False
    sign, rows = thing
    if not isinstance(sign, str) or len(sign) != 1 or not " " <= sign <= "~":
        return False
    return is_sign_rows(rows, height)


def is_font(thing):
    """Whether a thing is a font."""
    if not isinstance(thing, tuple) or len(thing) != 3:
        return False
    height, gap, signs = thing
    if not is_whole(height) or not 1 <= height <= MOST_OF_FONT or not is_whole(gap) or not 0 <= gap <= MOST_OF_FONT:
        return False
    if not isinstance(signs, tuple) or not all([is_sign(sign, height) for sign in signs]):
        return False
    texts = [sign for sign, rows in signs]
    rising = all([one < other for one, other in zip(texts, texts[1:])])
    # No sign stands ahead of the blank, so where it is at all it is the first.
    return rising and texts[:1] == [" "]


def measured(font, text):
    """How wide a text is: its signs, and the gap between them."""
    height, gap, signs = font
    widths = {sign: max([len(row) for row in rows], default=0) for sign, rows in signs}
    if any([sign not in widths for sign in text]):
        raise NoSign("the font has no such sign")
    return sum([widths[sign] for sign in text]) + gap * max(len(text) - 1, 0)


def words_of(row):
    """The words of a row of a text, none of them empty."""
    return [word for word in row.split(" ") if word]


def plain_ends(widths, between, width):
    """For each word with which a line may begin, the place behind the last word that still goes into that line."""
    ends = []
    end = 0
    # A line begins without a blank ahead of its first word.
    used = -between
    for wide in widths:
        while end < len(widths) and used + between + widths[end] <= width:
            used += between + widths[end]
            end += 1
        ends.append(end)
        # The next line begins one word later, and reaches no less far.
        used -= between + wide
    return ends


def fair_ends(widths, between, width):
    """For each word with which a line may begin, the place behind its last one if least is left from there on."""
    farthest = plain_ends(widths, between, width)
    many = len(widths)
    ends = [many] * many
    # Where all that is left goes into one line it is the last, which may leave what it likes.
    least = [0] * many
    for start in reversed(range(many)):
        if farthest[start] < many:
            choices = []
            used = -between
            for end in range(start + 1, farthest[start] + 1):
                used += between + widths[end - 1]
                # Of several that leave as little, the one with more words in this line is less here.
                choices.append(((width - used) ** 2 + least[end], -end))
            left, less_end = min(choices)
            least[start] = left
            ends[start] = -less_end
    return ends


def lines_by(words, ends):
    """The lines of a row, each from its first word on to the end that is told for that word."""
    if not words:
        return [""]
    lines = []
    start = 0
    while start < len(words):
        lines.append(" ".join(words[start:ends[start]]))
        start = ends[start]
    return lines


def broken(font, text, width, ends_of):
    """The lines of a text, broken where ends_of tells it of the widths of a row's words."""
    rows = [words_of(row) for row in text.split("\n")]
    # All words are measured ahead of the first being too wide: a sign that is not there is told first.
    widths = [[measured(font, word) for word in words] for words in rows]
    if any([wide > width for row in widths for wide in row]):
        raise TooWide("a word is wider than a line may be")
    between = measured(font, " ") + 2 * font[1]
    lines = []
    for words, wide in zip(rows, widths):
        lines.extend(lines_by(words, ends_of(wide, between, width)))
    return tuple(lines)


def plain_lines(font, text, width):
    """The lines of a text, each with as many words as go."""
    return broken(font, text, width, plain_ends)


def fair_lines(font, text, width):
    """The lines of a text, broken so that the squares of what is left come to least in each row."""
    return broken(font, text, width, fair_ends)


def none_ahead(left):
    """Nothing: the row stands at the left."""
    return 0


def all_ahead(left):
    """All that is left: the row stands at the right."""
    return left


def half_ahead(left):
    """Half of what is left: the row stands in the middle."""
    return left // 2


WAYS = {"left": none_ahead, "right": all_ahead, "middle": half_ahead}


def drawn_row(font, row, width, way):
    """The marks of one row of a text, as many texts as the font is high, each as long as the width."""
    height, gap, signs = font
    marks = dict(signs)
    ahead = WAYS[way]
    left = width - measured(font, row)
    start = "." * ahead(left)
    lines = [start + ("." * gap).join([marks[sign][y] for sign in row]) for y in range(height)]
    return [line.ljust(width, ".") for line in lines]


def drawn(font, rows, width, *, way="left"):
    """The mask of the rows of a text, one below the other, with one cell between."""
    if not isinstance(way, str) or way not in WAYS:
        raise BadWay("there is no such way")
    if any([wide > width for wide in [measured(font, row) for row in rows]]):
        raise TooWide("a row is wider than the mask")
    lines = []
    for at, row in enumerate(rows):
        if at > 0:
            lines.append("." * width)
        lines.extend(drawn_row(font, row, width, way))
    if len(lines) > MOST:
        raise TooGreat("the rows are too high together")
    cells = [FULL if mark == "#" else 0 for line in lines for mark in line]
    return (width, len(lines), tuple(cells))
