"""The names and arguments that DOC.md lists."""

import inspect
import unittest

from paintyard import (
    colours, files, filters, layers, letters, palettes, paths, pictures, prints, studios, tiles, writing)

LISTED = (
    (colours, "is_colour", 1), (colours, "shared", 3), (colours, "grey", 1), (colours, "distance", 2),
    (colours, "laid_over", 2), (colours, "blended", 3), (colours, "faded", 2), (colours, "mean_colour", 1),
    (pictures, "is_picture", 1), (pictures, "is_mask", 1), (pictures, "plain_one", 3), (pictures, "cell_at", 3),
    (pictures, "with_cell", 4), (pictures, "cut_out", 5), (pictures, "placed", 4), (pictures, "laid", 4),
    (pictures, "turned", 1), (pictures, "mirrored", 1), (pictures, "beside", 2), (pictures, "stacked", 2),
    (pictures, "grown", 2), (pictures, "shrunk", 2), (pictures, "sized", 3),
    (palettes, "colours_of", 1), (palettes, "nearest", 2), (palettes, "in_few", 2), (palettes, "faults", 2),
    (palettes, "palette_for", 2), (filters, "convolved", 4), (filters, "middled", 3), (filters, "curved", 2),
    (filters, "evened", 1), (filters, "flooded", 4), (filters, "areas", 1), (paths, "is_path", 1),
    (paths, "flat_rings", 1), (paths, "covered", 4), (paths, "stroked", 4), (paths, "shifted", 3),
    (paths, "painted", 3), (letters, "is_font", 1), (letters, "measured", 2), (letters, "plain_lines", 3),
    (letters, "fair_lines", 3), (letters, "drawn", 3), (layers, "is_layer", 1), (layers, "flattened", 3),
    (layers, "hit_at", 3), (files, "in_runs", 1), (files, "unrun", 1), (files, "told_row", 2), (files, "file_of", 1),
    (files, "opened", 1), (prints, "inks", 1), (prints, "unprinted", 1), (prints, "screen_of", 1),
    (prints, "dotted", 2), (prints, "carried", 2), (prints, "sheets", 1), (prints, "read_sheets", 1),
    (tiles, "in_tiles", 2), (tiles, "joined_tiles", 1), (tiles, "changed_tiles", 3), (tiles, "halved", 1),
    (tiles, "stepped", 1), (tiles, "seen_at", 6), (studios, "Studio", 2), (writing, "hex_text", 1),
    (writing, "read_hex", 1), (writing, "studio_text", 1), (writing, "read_studio", 1),
)
BY_NAME = {"laid": {"mode": "plain", "share": 255}, "painted": {"mode": "plain"}, "drawn": {"way": "left"}}

# The methods of a studio, with what is handed in beside the studio itself.
METHODS = (
    ("add", 2), ("drop", 1), ("move", 3), ("fade", 2), ("blend", 2), ("show", 2), ("lift", 2), ("gather", 2),
    ("open_up", 1), ("melt", 1), ("paint", 3), ("filter", 2), ("picture", 0), ("layers", 0), ("hit", 2), ("undo", 0),
    ("redo", 0), ("deeds", 0), ("undone", 0), ("__len__", 0), ("__str__", 0), ("__eq__", 1),
)
METHODS_BY_NAME = {"add": {"x": 0, "y": 0}, "paint": {"rule": "odd", "mode": "plain"}}


def by_place(function):
    """The parameters of a function that are handed in by their places."""
    return [one for one in inspect.signature(function).parameters.values() if one.kind != one.KEYWORD_ONLY]


def by_name(function):
    """What is left out of the parameters of a function that are handed in by their names."""
    told = inspect.signature(function).parameters.values()
    return {one.name: one.default for one in told if one.kind == one.KEYWORD_ONLY}


class InterfaceTest(unittest.TestCase):
    def test_each_function_stands_in_its_module_with_its_arguments(self):
        for module, name, many in LISTED:
            function = getattr(module, name)
            self.assertEqual(function.__module__, module.__name__)
            self.assertEqual(len(by_place(function)), many, name)
            self.assertTrue(all(one.default is one.empty for one in by_place(function)), name)

    def test_arguments_behind_a_star(self):
        for module, name, many in LISTED:
            self.assertEqual(by_name(getattr(module, name)), BY_NAME.get(name, {}), name)

    def test_each_method_stands_in_the_class_itself_with_its_arguments(self):
        for name, many in METHODS:
            method = vars(studios.Studio)[name]
            self.assertEqual(len(by_place(method)), many + 1, name)
            self.assertTrue(all(one.default is one.empty for one in by_place(method)), name)
            self.assertEqual(by_name(method), METHODS_BY_NAME.get(name, {}), name)


if __name__ == "__main__":
    unittest.main()
