"""The names and arguments that DOC.md lists."""

import inspect
import unittest

from paintyard import colours, files, filters, layers, letters, palettes, paths, pictures

LISTED = (
    (colours, "is_colour", 1), (colours, "shared", 3), (colours, "grey", 1), (colours, "distance", 2),
    (colours, "laid_over", 2), (colours, "blended", 3), (colours, "faded", 2), (colours, "mean_colour", 1),
    (pictures, "is_picture", 1), (pictures, "is_mask", 1), (pictures, "plain_one", 3), (pictures, "cell_at", 3),
    (pictures, "with_cell", 4), (pictures, "cut_out", 5), (pictures, "placed", 4), (pictures, "laid", 4),
    (pictures, "turned", 1), (pictures, "mirrored", 1), (pictures, "beside", 2), (pictures, "stacked", 2),
    (pictures, "grown", 2), (pictures, "shrunk", 2), (pictures, "sized", 3),
    (palettes, "colours_of", 1), (palettes, "nearest", 2), (palettes, "in_few", 2), (palettes, "faults", 2),
    (palettes, "palette_for", 2), (filters, "convolved", 4), (filters, "middled", 3), (filters, "curved", 2),
    (filters, "evened", 1), (filters, "flooded", 4), (filters, "areas", 1), (paths, "is_path", 1),
    (paths, "flat_rings", 1), (paths, "covered", 4), (paths, "stroked", 4), (paths, "shifted", 3),
    (paths, "painted", 3), (letters, "is_font", 1), (letters, "measured", 2), (letters, "plain_lines", 3),
    (letters, "fair_lines", 3), (letters, "drawn", 3), (layers, "is_layer", 1), (layers, "flattened", 3),
    (layers, "hit_at", 3), (files, "in_runs", 1), (files, "unrun", 1), (files, "told_row", 2), (files, "file_of", 1),
    (files, "opened", 1),
)
BY_NAME = {"laid": {"mode": "plain", "share": 255}, "painted": {"mode": "plain"}, "drawn": {"way": "left"}}


class InterfaceTest(unittest.TestCase):
    def test_each_function_stands_in_its_module_with_its_arguments(self):
        for module, name, many in LISTED:
            function = getattr(module, name)
            self.assertEqual(function.__module__, module.__name__)
            by_place = [one for one in inspect.signature(function).parameters.values() if one.kind != one.KEYWORD_ONLY]
            self.assertEqual(len(by_place), many, name)
            self.assertTrue(all(one.default is one.empty for one in by_place), name)

    def test_arguments_behind_a_star(self):
        for module, name, many in LISTED:
            told = inspect.signature(getattr(module, name)).parameters.values()
            by_name = {one.name: one.default for one in told if one.kind == one.KEYWORD_ONLY}
            self.assertEqual(by_name, BY_NAME.get(name, {}), name)


if __name__ == "__main__":
    unittest.main()
