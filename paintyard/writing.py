"""Writings: bytes as hex texts, and studios as texts that are read back."""

from paintyard.colours import is_colour
from paintyard.errors import NoText, PaintError
from paintyard.files import file_of, opened
from paintyard.paths import is_path
from paintyard.pictures import is_side
from paintyard.studios import Studio

FIGURES = "0123456789abcdef"
TRUTHS = {"yes": True, "no": False}
UNDONE = "? "


def hex_text(told):
    """Bytes as a text, two signs each."""
    return "".join([f"{byte:02x}" for byte in told])


def read_hex(text):
    """The bytes that a hex text tells."""
    if len(text) % 2 != 0 or any([sign not in FIGURES for sign in text]):
        raise NoText("this is no hex text")
    return tuple([int(text[at:at + 2], 16) for at in range(0, len(text), 2)])


def same_text(text):
    """A text as it is."""
    return text


def number_text(number):
    """A number in figures."""
    return str(number)


def truth_text(truth):
    """A truth by its word."""
    return "yes" if truth else "no"


def picture_text(picture):
    """The hex text of a picture's file."""
    return hex_text(file_of(picture))


def names_text(names):
    """Names with a plus between."""
    return "+".join(names)


def piece_text(piece):
    """The numbers of a to or a by."""
    return ",".join([f"{x},{y}" for x, y in piece[1:]])


def path_text(path):
    """The rings of a path, told by the numbers of their pieces."""
    if not path:
        return "-"
    return "/".join([";".join([piece_text(piece) for piece in ring]) for ring in path])


def read_number(text):
    """The number that a text tells, in whatever figures."""
    try:
        return int(text)
    except ValueError:
        raise NoText("this is no number") from None


def read_truth(text):
    """The truth that a word tells."""
    if text not in TRUTHS:
        raise NoText("this is no truth")
    return TRUTHS[text]


def read_picture(text):
    """The picture of a file that is told by a hex text."""
    return opened(read_hex(text))


def read_names(text):
    """The one or more unlike names that stand with a plus between."""
    # An empty text tells one empty name, which no layer has, and so never a tuple of none.
    names = tuple(text.split("+"))
    if len(set(names)) != len(names):
        raise NoText("a name stands there twice")
    return names


def read_piece(text):
    """The to or the by that its numbers tell."""
    numbers = [read_number(word) for word in text.split(",")]
    points = list(zip(numbers[::2], numbers[1::2]))
    return ("to" if len(numbers) == 2 else "by", *points)


def read_path(text):
    """The path that its rings tell."""
    rings = text.split("/") if text != "-" else []
    path = tuple([tuple([read_piece(piece) for piece in ring.split(";")]) for ring in rings])
    if not is_path(path):
        raise NoText("this is no path")
    return path


def read_colour(text):
    """The colour that the hex text of its parts tells."""
    colour = read_hex(text)
    if not is_colour(colour):
        raise NoText("this is no colour")
    return colour


# What the values of each deed are.
VALUES = {
    "add": ("text", "picture", "number", "number"),
    "drop": ("text",),
    "move": ("text", "number", "number"),
    "fade": ("text", "number"),
    "blend": ("text", "text"),
    "show": ("text", "truth"),
    "lift": ("text", "number"),
    "gather": ("names", "text"),
    "open_up": ("text",),
    "melt": ("text",),
    "paint": ("text", "path", "colour", "text", "text"),
    "filter": ("text", "text"),
}
WRITERS = {
    "text": same_text,
    "number": number_text,
    "truth": truth_text,
    "picture": picture_text,
    "names": names_text,
    "path": path_text,
    "colour": hex_text,
}
READERS = {
    "text": same_text,
    "number": read_number,
    "truth": read_truth,
    "picture": read_picture,
    "names": read_names,
    "path": read_path,
    "colour": read_colour,
}


def value_text(kind, value):
    """The text of a value of this kind."""
    write = WRITERS[kind]
    return write(value)


def read_value(kind, text):
    """The value of this kind that a text tells."""
    read = READERS[kind]
    return read(text)


def deed_line(deed):
    """The line of a deed, its word and its values."""
    word, values = deed
    texts = [value_text(kind, value) for kind, value in zip(VALUES[word], values)]
    return " ".join([word] + texts) + "\n"


def studio_text(studio):
    """The text of a studio: its size, its deeds, and those that can be done again."""
    width, height = studio.size
    lines = [f"studio {width} {height}\n"]
    lines.extend([deed_line(deed) for deed in studio.deeds()])
    lines.extend([UNDONE + deed_line(deed) for deed in studio.undone()])
    return "".join(lines)


def read_head(line):
    """The studio, still empty, of which this is the first line."""
    words = line.split(" ")
    if len(words) != 3 or words[0] != "studio":
        raise NoText("a studio begins with its size")
    width, height = read_number(words[1]), read_number(words[2])
    if not is_side(width) or not is_side(height):
        raise NoText("a studio is as great as a picture may be")
    return Studio(width, height)


def do_line(studio, line):
    """Does the deed that a line tells."""
    word, *texts = line.split(" ")
    if word not in VALUES or len(texts) != len(VALUES[word]):
        raise NoText("there is no such deed with so many values")
    studio.do(word, tuple([read_value(kind, text) for kind, text in zip(VALUES[word], texts)]))


def studio_from(text):
    """The studio that the lines of a text come to, however they are written."""
    first, *lines = text.split("\n")
    studio = read_head(first)
    undone = 0
    # Behind the last line feed nothing stands.
    for line in lines[:-1]:
        if line.startswith(UNDONE):
            undone += 1
        do_line(studio, line.removeprefix(UNDONE))
    for k in range(undone):
        studio.undo()
    return studio


def read_studio(text):
    """The studio that is and goes on as the one with this text."""
    try:
        studio = studio_from(text)
    except PaintError as why:
        raise NoText("this is no studio's text") from why
    # Numbers, files and lines may be written in many ways, but a studio has one text alone.
    if studio_text(studio) != text:
        raise NoText("a studio would be written in another way")
    return studio
