"""Studios: layers that are added, moved, gathered, painted, and all deeds taken back and done again."""

from paintyard.deeds import layers_after
from paintyard.errors import Nothing
from paintyard.layers import flattened, hit_at


class Studio:
    """Layers, so wide and high as a picture, and the deeds by which they became what they are."""

    def __init__(self, width, height):
        self.size = (width, height)
        self.stack = ()
        # Each deed that is done, with the layers ahead of it, the last one last.
        self.past = []
        # Each deed that is undone, with the layers behind it, the next one last.
        self.ahead = []

    def do(self, word, values):
        """Does a deed, told by its word and all its values; what was undone can't be done again then."""
        stack = layers_after(self.size, self.stack, word, values)
        self.past.append(((word, values), self.stack))
        self.ahead = []
        self.stack = stack

    def add(self, name, picture, *, x=0, y=0):
        """Puts a leaf on top."""
        self.do("add", (name, picture, x, y))

    def drop(self, name):
        """Takes a layer away."""
        self.do("drop", (name,))

    def move(self, name, x, y):
        """Moves a leaf, or all in a lot, by so many cells."""
        self.do("move", (name, x, y))

    def fade(self, name, share):
        """Gives a layer another share."""
        self.do("fade", (name, share))

    def blend(self, name, mode):
        """Gives a layer another mode."""
        self.do("blend", (name, mode))

    def show(self, name, shown):
        """Shows a layer, or hides it."""
        self.do("show", (name, shown))

    def lift(self, name, place):
        """Puts a layer to another place, counted from below."""
        self.do("lift", (name, place))

    def gather(self, names, name):
        """Puts layers into a new lot."""
        self.do("gather", (names, name))

    def open_up(self, name):
        """Puts a lot's layers in its place."""
        self.do("open_up", (name,))

    def melt(self, name):
        """Makes a layer a leaf with the picture that it comes to alone."""
        self.do("melt", (name,))

    def paint(self, name, path, colour, *, rule="odd", mode="plain"):
        """Paints a leaf's picture by the cover of a path."""
        self.do("paint", (name, path, colour, rule, mode))

    def filter(self, name, word):
        """Changes a leaf's picture as the word tells."""
        self.do("filter", (name, word))

    def picture(self):
        """What the layers come to."""
        width, height = self.size
        return flattened(width, height, self.stack)

    def layers(self):
        """The layers, the lowest one first."""
        return self.stack

    def hit(self, x, y):
        """The names of the shown leaves at a place, and of their lots, the uppermost first."""
        return hit_at(self.stack, x, y)

    def undo(self):
        """Takes the last deed back that is done."""
        if not self.past:
            raise Nothing("no deed is left to undo")
        deed, stack = self.past.pop()
        self.ahead.append((deed, self.stack))
        self.stack = stack

    def redo(self):
        """Does the deed again that was undone last."""
        if not self.ahead:
            raise Nothing("no deed is left to do again")
        deed, stack = self.ahead.pop()
        self.past.append((deed, self.stack))
        self.stack = stack

    def deeds(self):
        """The deeds that are done, as they were done: (word, values)."""
        return tuple([deed for deed, stack in self.past])

    def undone(self):
        """The deeds that can be done again, the next one first."""
        return tuple([deed for deed, stack in reversed(self.ahead)])

    def __len__(self):
        return len(self.stack)

    def __str__(self):
        width, height = self.size
        return f"{width} by {height}, {len(self.stack)} layers"

    def __eq__(self, other):
        if not isinstance(other, Studio):
            return False
        return self.size == other.size and self.deeds() == other.deeds() and self.undone() == other.undone()
