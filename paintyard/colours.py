"""Colours: shared, greyed, laid over one another, blended, faded, and their mean."""

from paintyard.errors import BadMode
from paintyard.parts import FULL, is_part, rounded

CLEAR = (0, 0, 0, 0)


def is_colour(thing):
    """Whether a thing is a tuple of four parts."""
    return isinstance(thing, tuple) and len(thing) == 4 and all([is_part(part) for part in thing])


def shared(one, other, share):
    """The colour that lies between one and other, so far to the other as share tells."""
    return tuple([rounded(p * (FULL - share) + q * share, FULL) for p, q in zip(one, other)])


def grey(colour):
    """The grey that is as light as the colour, with the same cover."""
    red, green, blue, cover = colour
    light = rounded(299 * red + 587 * green + 114 * blue, 1000)
    return (light, light, light, cover)


def distance(one, other):
    """The squares of the differences of all four parts, together."""
    return sum([(p - q) * (p - q) for p, q in zip(one, other)])


def laid_over(top, bottom):
    """The colour that is seen where the top one lies over the bottom one."""
    of_top = FULL * top[3]
    of_bottom = bottom[3] * (FULL - top[3])
    whole = of_top + of_bottom
    if whole == 0:
        return CLEAR
    parts = [rounded(of_top * p + of_bottom * q, whole) for p, q in zip(top[:3], bottom[:3])]
    return (*parts, rounded(whole, FULL))


def plain_part(p, q):
    """The top part."""
    return p


def times_part(p, q):
    """Both parts multiplied."""
    return rounded(p * q, FULL)


def screen_part(p, q):
    """What both parts lack, multiplied, is what is lacking."""
    return FULL - times_part(FULL - p, FULL - q)


def dark_part(p, q):
    """The lesser part."""
    return min(p, q)


def light_part(p, q):
    """The greater part."""
    return max(p, q)


def add_part(p, q):
    """The sum, as far as a part goes."""
    return min(p + q, FULL)


def less_part(p, q):
    """The bottom part less the top one, as far as a part goes."""
    return max(q - p, 0)


def apart_part(p, q):
    """How far the parts are from one another."""
    return abs(p - q)


MODES = {
    "plain": plain_part,
    "times": times_part,
    "screen": screen_part,
    "dark": dark_part,
    "light": light_part,
    "add": add_part,
    "less": less_part,
    "apart": apart_part,
}


def is_mode(thing):
    """Whether a thing is one of the eight words for modes."""
    return isinstance(thing, str) and thing in MODES


def blended(top, bottom, mode):
    """The top colour laid over the bottom one, mixed with it by the mode as far as the bottom covers."""
    if not is_mode(mode):
        raise BadMode("there is no such mode")
    told = MODES[mode]
    cover = bottom[3]
    parts = [rounded((FULL - cover) * p + cover * told(p, q), FULL) for p, q in zip(top[:3], bottom[:3])]
    return laid_over((*parts, top[3]), bottom)


def faded(colour, share):
    """The colour with only so much of its cover."""
    red, green, blue, cover = colour
    return (red, green, blue, rounded(cover * share, FULL))


def mean_colour(colours):
    """The mean of one or more colours, each counted by its cover."""
    covers = sum([colour[3] for colour in colours])
    if covers == 0:
        return CLEAR
    sums = [sum([colour[3] * colour[at] for colour in colours]) for at in range(3)]
    parts = [rounded(total, covers) for total in sums]
    return (*parts, rounded(covers, len(colours)))
