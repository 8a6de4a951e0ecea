"""The names and arguments that DOC.md lists."""

import inspect
import unittest

from paintyard import colours, pictures

LISTED = (
    (colours, "is_colour", 1), (colours, "shared", 3), (colours, "grey", 1), (colours, "distance", 2),
    (colours, "laid_over", 2), (colours, "blended", 3), (colours, "faded", 2), (colours, "mean_colour", 1),
    (pictures, "is_picture", 1), (pictures, "is_mask", 1), (pictures, "plain_one", 3), (pictures, "cell_at", 3),
    (pictures, "with_cell", 4), (pictures, "cut_out", 5), (pictures, "placed", 4), (pictures, "laid", 4),
    (pictures, "turned", 1), (pictures, "mirrored", 1), (pictures, "beside", 2), (pictures, "stacked", 2),
    (pictures, "grown", 2), (pictures, "shrunk", 2), (pictures, "sized", 3),
)


class InterfaceTest(unittest.TestCase):
    def test_each_function_stands_in_its_module_with_its_arguments(self):
        for module, name, many in LISTED:
            function = getattr(module, name)
            self.assertEqual(function.__module__, module.__name__)
            by_place = [one for one in inspect.signature(function).parameters.values() if one.kind != one.KEYWORD_ONLY]
            self.assertEqual(len(by_place), many, name)
            self.assertTrue(all(one.default is one.empty for one in by_place), name)

    def test_only_laid_has_arguments_behind_a_star(self):
        for module, name, many in LISTED:
            told = inspect.signature(getattr(module, name)).parameters.values()
            by_name = {one.name: one.default for one in told if one.kind == one.KEYWORD_ONLY}
            self.assertEqual(by_name, {"mode": "plain", "share": 255} if name == "laid" else {})


if __name__ == "__main__":
    unittest.main()
