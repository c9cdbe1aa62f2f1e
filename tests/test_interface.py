"""The interface of DOC.md: each name stands in its own file, with its own arguments."""

import importlib
import inspect
import unittest

FUNCTIONS = {
    "regions": {
        "is_rectangle": "(value)",
        "is_region": "(value)",
        "region_of": "(rectangles)",
        "union": "(first, second)",
        "common": "(first, second)",
        "without": "(first, second)",
        "holds": "(region, x, y)",
        "points_of": "(region)",
        "area": "(region)",
        "moved": "(region, dx, dy)",
        "cut_to": "(region, rectangle)",
        "bounds": "(region)",
    },
    "pictures": {
        "is_number": "(value, least, most)",
        "check_picture": "(picture)",
        "point_in": "(picture, x, y)",
        "filled": "(width, height, value, cover)",
        "mirrored": "(picture)",
        "turned": "(picture)",
        "part_of": "(picture, left, top, width, height)",
    },
    "paints": {
        "is_name": "(value)",
        "check_paint": "(paint)",
        "paint_at": "(paint, x, y)",
        "is_full": "(paint, width, height)",
    },
    "blends": {
        "check_what": "(what)",
        "blended": "(mode, value, paint, cover)",
    },
    "moves": {
        "check_moves": "(moves)",
        "offset_at": "(moves, frame)",
    },
    "clips": {
        "check_clips": "(clips, adjusts)",
        "clip_at": "(clips, frame)",
        "level_at": "(clip, frame)",
        "lane": "(clips, frame)",
    },
}
CLASSES = {
    "errors": {
        "FilmError": "(word, place=None)",
        "BadLine": "(place=None)",
        "BadFilm": "(place=None)",
        "BadLayer": "(place=None)",
        "DuplicateLayer": "(place=None)",
        "UnknownLayer": "(place=None)",
        "BadFrame": "(place=None)",
        "BadClip": "(place=None)",
        "BadCut": "(place=None)",
        "BadEdit": "(place=None)",
        "NothingToUndo": "(place=None)",
        "NothingToRedo": "(place=None)",
        "BadPaint": "(place=None)",
        "BadPicture": "(place=None)",
        "BadWhat": "(place=None)",
        "BadMoves": "(place=None)",
        "BadJoin": "(place=None)",
        "BadPlace": "(place=None)",
        "BadRectangle": "(place=None)",
    },
}


class InterfaceTest(unittest.TestCase):
    def check_all(self, table, is_kind):
        for file, names in table.items():
            module = importlib.import_module("onlythedirt." + file)
            for name, arguments in names.items():
                with self.subTest(file=file, name=name):
                    found = getattr(module, name)
                    self.assertTrue(is_kind(found))
                    self.assertEqual(found.__module__, module.__name__)
                    self.assertEqual(str(inspect.signature(found)), arguments)

    def test_functions(self):
        self.check_all(FUNCTIONS, inspect.isfunction)

    def test_classes(self):
        self.check_all(CLASSES, inspect.isclass)


if __name__ == "__main__":
    unittest.main()
