"""Deeds of a studio: what each of them makes of a tuple of layers, or why it is refused.

Each deed takes the size of the studio, its layers, and the values that it is handed, and tells the layers that come
of it.
"""

from paintyard.colours import grey, is_mode
from paintyard.errors import BadMode, BadName, BadPart, BadPicture, BadWord, NoName, NoPlace, Taken, TooGreat
from paintyard.filters import curved, evened, middled
from paintyard.layers import flattened, is_name, is_offset, walked
from paintyard.parts import is_part
from paintyard.paths import covered, painted
from paintyard.pictures import is_picture, mirrored, turned

# What a new layer ends with: its share, its mode, and that it is shown.
NEW_LOOK = (255, "plain", True)


def place_of_name(layers, name):
    """The place of the layer with this name outside of lots."""
    names = [layer[1] for layer in layers]
    if name not in names:
        raise NoName("no layer has this name")
    return names.index(name)


def place_of_kind(layers, name, kind):
    """The place of the leaf, or of the lot, with this name outside of lots."""
    place = place_of_name(layers, name)
    if layers[place][0] != kind:
        raise NoName("the layer with this name is of the other kind")
    return place


def check_new_name(layers, name):
    """Refuses what is no name, and a name that any layer has, also in lots."""
    if not is_name(name):
        raise BadName("a name is 1 to 8 letters a to z")
    if name in [layer[1] for step, layer in walked(layers, True)]:
        raise Taken("another layer has this name")


def with_layer(layers, place, layer):
    """The layers with another one at this place."""
    return (*layers[:place], layer, *layers[place + 1:])


def added(size, layers, name, picture, x, y):
    """A new leaf on top."""
    check_new_name(layers, name)
    if not is_picture(picture):
        raise BadPicture("this is no picture")
    if not is_offset(x) or not is_offset(y):
        raise TooGreat("the leaf would lie too far away")
    return (*layers, ("leaf", name, picture, x, y, *NEW_LOOK))


def dropped(size, layers, name):
    """One layer less."""
    place = place_of_name(layers, name)
    return layers[:place] + layers[place + 1:]


def moved_leaf(leaf, x, y):
    """A leaf, moved by so many cells."""
    word, name, picture, old_x, old_y, *look = leaf
    if not is_offset(old_x + x) or not is_offset(old_y + y):
        raise TooGreat("a leaf would lie too far away")
    return (word, name, picture, old_x + x, old_y + y, *look)


def moved(size, layers, name, x, y):
    """A leaf, or all leaves in a lot, moved by so many cells."""
    place = place_of_name(layers, name)
    # The last holds what of the innermost lot that is not left yet is moved already, the first the layer itself.
    levels = [[]]
    for step, layer in walked(layers[place:place + 1], True):
        if step == "into":
            levels.append([])
        elif step == "out":
            inner = tuple(levels.pop())
            levels[-1].append((*layer[:2], inner, *layer[3:]))
        else:
            levels[-1].append(moved_leaf(layer, x, y))
    return with_layer(layers, place, levels[0][0])


def faded_layer(size, layers, name, share):
    """A layer with another share."""
    place = place_of_name(layers, name)
    if not is_part(share):
        raise BadPart("a share is a part")
    layer = layers[place]
    return with_layer(layers, place, (*layer[:-3], share, *layer[-2:]))


def blended_layer(size, layers, name, mode):
    """A layer with another mode."""
    place = place_of_name(layers, name)
    if not is_mode(mode):
        raise BadMode("there is no such mode")
    layer = layers[place]
    return with_layer(layers, place, (*layer[:-2], mode, layer[-1]))


def shown_layer(size, layers, name, shown):
    """A layer that is shown, or is not."""
    place = place_of_name(layers, name)
    return with_layer(layers, place, (*layers[place][:-1], shown))


def lifted(size, layers, name, place):
    """A layer at another place, counted from below."""
    old_place = place_of_name(layers, name)
    if not 0 <= place < len(layers):
        raise NoPlace("no layer can stand there")
    rest = layers[:old_place] + layers[old_place + 1:]
    return (*rest[:place], layers[old_place], *rest[place:])


def gathered(size, layers, names, name):
    """Layers put into a new lot, as they stand, in the place of the uppermost."""
    places = sorted({place_of_name(layers, one) for one in names})
    check_new_name(layers, name)
    lot = ("lot", name, tuple([layers[place] for place in places]), *NEW_LOOK)
    # A lot of none is not refused; where nothing is the uppermost it lies on top.
    top = max(places, default=len(layers))
    below = [layers[place] for place in range(top) if place not in places]
    return (*below, lot, *layers[top + 1:])


def opened_up(size, layers, name):
    """A lot's layers in its place."""
    place = place_of_kind(layers, name, "lot")
    return layers[:place] + layers[place][2] + layers[place + 1:]


def melted(size, layers, name):
    """A layer as a leaf with the picture that it comes to alone."""
    place = place_of_name(layers, name)
    width, height = size
    picture = flattened(width, height, layers[place:place + 1])
    return with_layer(layers, place, ("leaf", name, picture, 0, 0, *NEW_LOOK))


def with_picture(layers, place, picture):
    """The layers with another picture for the leaf at this place."""
    leaf = layers[place]
    return with_layer(layers, place, (*leaf[:2], picture, *leaf[3:]))


def painted_leaf(size, layers, name, path, colour, rule, mode):
    """A leaf with its picture painted by the cover of a path."""
    place = place_of_kind(layers, name, "leaf")
    picture = layers[place][2]
    mask = covered(path, picture[0], picture[1], rule)
    return with_picture(layers, place, painted(picture, mask, colour, mode=mode))


def filtered(picture, word):
    """A picture changed as the word tells."""
    if word == "turned":
        return turned(picture)
    if word == "mirrored":
        return mirrored(picture)
    if word == "evened":
        return curved(picture, evened(picture))
    if word == "middled":
        return middled(picture, 1, "near")
    if word == "grey":
        return (picture[0], picture[1], tuple([grey(cell) for cell in picture[2]]))
    raise BadWord("there is no such filter")


def filtered_leaf(size, layers, name, word):
    """A leaf with its picture changed as the word tells."""
    place = place_of_kind(layers, name, "leaf")
    return with_picture(layers, place, filtered(layers[place][2], word))


DEEDS = {
    "add": added,
    "drop": dropped,
    "move": moved,
    "fade": faded_layer,
    "blend": blended_layer,
    "show": shown_layer,
    "lift": lifted,
    "gather": gathered,
    "open_up": opened_up,
    "melt": melted,
    "paint": painted_leaf,
    "filter": filtered_leaf,
}


def layers_after(size, layers, word, values):
    """The layers that come of a deed, told by its word and values."""
    deed = DEEDS[word]
    return deed(size, layers, *values)
