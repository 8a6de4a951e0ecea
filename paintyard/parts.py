"""Whole numbers and parts: what they are, and how quotients are rounded."""

FULL = 255


def is_whole(thing):
    """Whether a thing is a whole number; truths are none."""
    return isinstance(thing, int) and not isinstance(thing, bool)


def is_part(thing):
    """Whether a thing is a whole number from 0 to 255."""
    return is_whole(thing) and 0 <= thing <= FULL


def rounded(amount, by):
    """The whole number next to amount by by, halves up."""
    return (2 * amount + by) // (2 * by)
