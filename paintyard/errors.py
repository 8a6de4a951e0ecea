"""The refusals of the library, each a class of its own below PaintError."""


class PaintError(ValueError):
    """Any refusal."""


class BadMode(PaintError):
    """A word that is no mode."""


class NoCell(PaintError):
    """A place that has no cell."""


class Uneven(PaintError):
    """Sizes that do not fit one another."""


class TooGreat(PaintError):
    """Something would be greater than it may be."""


class BadEdge(PaintError):
    """A word that is no edge."""


class BadRule(PaintError):
    """A word that is no rule of covering."""


class NoSign(PaintError):
    """A sign that a font does not have."""


class TooWide(PaintError):
    """Something is wider than the room for it."""


class BadWay(PaintError):
    """A word that is no way of setting lines."""


class BadFile(PaintError):
    """Bytes that tell no picture."""


class BadTiles(PaintError):
    """Tiles that no picture and size tell."""


class BadName(PaintError):
    """A text that is no name."""


class Taken(PaintError):
    """A name that another layer has."""


class BadPicture(PaintError):
    """A thing that is no picture."""


class NoName(PaintError):
    """A name that no fitting layer has."""


class BadPart(PaintError):
    """A number that is no part."""


class NoPlace(PaintError):
    """A place at which no layer can stand."""


class BadWord(PaintError):
    """A word that is no filter."""


class Nothing(PaintError):
    """Nothing is left to undo or to do again."""


class NoText(PaintError):
    """A text that does not tell what it should."""
