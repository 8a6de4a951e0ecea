"""Layers: leaves and lots, what they come to together, and which of them lie at a place."""

from paintyard.colours import CLEAR, is_mode
from paintyard.parts import is_part, is_whole
from paintyard.pictures import is_picture, laid, plain_one

LONGEST_NAME = 8
FARTHEST = 999


def is_name(thing):
    """Whether a thing is a text of 1 to 8 letters a to z."""
    if not isinstance(thing, str) or not 1 <= len(thing) <= LONGEST_NAME:
        return False
    return all(["a" <= sign <= "z" for sign in thing])


def is_offset(thing):
    """Whether a thing is a whole number that a leaf may have as its x or y."""
    return is_whole(thing) and -FARTHEST <= thing <= FARTHEST


def is_look(thing):
    """Whether a thing is what all layers end with: a share, a mode, and whether they are shown."""
    share, mode, shown = thing
    return is_part(share) and is_mode(mode) and isinstance(shown, bool)


def is_leaf(thing):
    """Whether a thing is a leaf."""
    if not isinstance(thing, tuple) or len(thing) != 8 or thing[0] != "leaf":
        return False
    word, name, picture, x, y, *look = thing
    return is_name(name) and is_picture(picture) and is_offset(x) and is_offset(y) and is_look(look)


def is_lot_of_any(thing):
    """Whether a thing is a lot as far as its layers are not asked."""
    if not isinstance(thing, tuple) or len(thing) != 6 or thing[0] != "lot":
        return False
    word, name, layers, *look = thing
    return is_name(name) and isinstance(layers, tuple) and is_look(look)


def is_layer(thing):
    """Whether a thing is a leaf, or a lot of layers."""
    # Lots may lie in lots deeper than functions may call themselves, so what is still to be asked of waits in a list.
    waiting = [thing]
    while waiting:
        one = waiting.pop()
        if is_lot_of_any(one):
            waiting.extend(one[2])
        elif not is_leaf(one):
            return False
    return True


def walked(layers, with_hidden):
    """The steps of a walk through layers, from the first to the last: (word, layer).

    A leaf is told by "leaf", a lot by "into" ahead of all that is in it and by "out" behind it. What is not shown is
    told only if it is asked for.
    """
    # Lots may lie in lots deeper than functions may call themselves, so what is still to come waits in a list.
    steps = []
    waiting = [(False, layer) for layer in reversed(layers)]
    while waiting:
        been_in, layer = waiting.pop()
        if been_in:
            steps.append(("out", layer))
        elif layer[-1] or with_hidden:
            if layer[0] == "leaf":
                steps.append(("leaf", layer))
            else:
                steps.append(("into", layer))
                waiting.append((True, layer))
                waiting.extend([(False, inner) for inner in reversed(layer[2])])
    return steps


def flattened(width, height, layers):
    """The picture that the layers come to that are shown, the first one laid first."""
    clear = plain_one(width, height, CLEAR)
    # The last is the picture of the innermost lot that is not left yet, the first that of all.
    pictures = [clear]
    for step, layer in walked(layers, False):
        if step == "into":
            pictures.append(clear)
        else:
            other, x, y = layer[2:5] if step == "leaf" else (pictures.pop(), 0, 0)
            pictures[-1] = laid(pictures[-1], other, x, y, mode=layer[-2], share=layer[-3])
    return pictures[0]


def is_met(leaf, x, y):
    """Whether a leaf has a colour with a cover at x and y."""
    (width, height, cells), left, top = leaf[2:5]
    if not (left <= x < left + width and top <= y < top + height):
        return False
    return cells[(y - top) * width + x - left][3] > 0


def hit_at(layers, x, y):
    """For all shown leaves with a cover at a place, the last ones first, their names and their lots' from outside."""
    names = []
    hits = []
    for step, layer in walked(layers, False):
        if step == "into":
            names.append(layer[1])
        elif step == "out":
            names.pop()
        elif is_met(layer, x, y):
            hits.append((*names, layer[1]))
    return tuple(hits[::-1])
