"""The interface of DOC.md: each name stands in its own file, with its own arguments."""

import importlib
import inspect
import unittest

FUNCTIONS = {
    "regions": {
        "is_rectangle": "(value)",
        "is_region": "(value)",
        "region_of": "(rectangles)",
        "union": "(first, second)",
        "common": "(first, second)",
        "without": "(first, second)",
        "holds": "(region, x, y)",
        "points_of": "(region)",
        "area": "(region)",
        "moved": "(region, dx, dy)",
        "cut_to": "(region, rectangle)",
        "bounds": "(region)",
    },
    "pictures": {
        "is_number": "(value, least, most)",
        "check_picture": "(picture)",
        "point_in": "(picture, x, y)",
        "filled": "(width, height, value, cover)",
        "mirrored": "(picture)",
        "turned": "(picture)",
        "part_of": "(picture, left, top, width, height)",
    },
    "paints": {
        "is_name": "(value)",
        "check_paint": "(paint)",
        "paint_at": "(paint, x, y)",
        "is_full": "(paint, width, height)",
    },
    "blends": {
        "check_what": "(what)",
        "blended": "(mode, value, paint, cover)",
    },
    "moves": {
        "check_moves": "(moves)",
        "offset_at": "(moves, frame)",
    },
    "clips": {
        "check_clips": "(clips, adjusts)",
        "clip_at": "(clips, frame)",
        "level_at": "(clip, frame)",
        "lane": "(clips, frame)",
    },
    "timeline": {
        "cut_at": "(clips, frame)",
        "join_at": "(clips, place)",
        "with_span": "(clips, place, start, length)",
        "moved_by": "(clips, place, frames)",
        "lifted": "(clips, first, last)",
        "placed": "(clips, clip)",
        "rippled_out": "(clips, first, last)",
        "rippled_in": "(clips, frame, count)",
    },
    "film": {
        "same_film": "(first, second)",
        "extent_of": "(film, layer, frame)",
        "items_at": "(film, frame)",
    },
    "plain": {
        "shown": "(film, frame, x, y)",
        "picture_of": "(film, frame)",
    },
    "dirt": {
        "stack_at": "(film, frame, x, y)",
        "dirt_of": "(first, second, frame)",
    },
    "edits": {
        "done": "(film, edit)",
        "inverse": "(film, edit)",
    },
    "written": {
        "format_film": "(film)",
        "parse_film": "(text)",
    },
}
CLASSES = {
    "errors": {
        "FilmError": "(word, place=None)",
        "BadLine": "(place=None)",
        "BadFilm": "(place=None)",
        "BadLayer": "(place=None)",
        "DuplicateLayer": "(place=None)",
        "UnknownLayer": "(place=None)",
        "BadFrame": "(place=None)",
        "BadClip": "(place=None)",
        "BadCut": "(place=None)",
        "BadEdit": "(place=None)",
        "NothingToUndo": "(place=None)",
        "NothingToRedo": "(place=None)",
        "BadPaint": "(place=None)",
        "BadPicture": "(place=None)",
        "BadWhat": "(place=None)",
        "BadMoves": "(place=None)",
        "BadJoin": "(place=None)",
        "BadPlace": "(place=None)",
        "BadRectangle": "(place=None)",
    },
    "film": {
        "Film": "(width, height, frames, background, layers)",
    },
    "history": {
        "History": "(film)",
    },
    "viewer": {
        "Viewer": "(film)",
    },
}
METHODS = {
    ("history", "History"): {
        "counts": "(self)",
        "edit": "(self, edit)",
        "undo": "(self)",
        "redo": "(self)",
    },
    ("viewer", "Viewer"): {
        "film": "(self)",
        "show": "(self, frame)",
        "dirt": "(self, frame)",
        "kept": "(self)",
        "worked": "(self)",
        "forget": "(self)",
        "counts": "(self)",
        "edit": "(self, edit)",
        "undo": "(self)",
        "redo": "(self)",
    },
}
PROPERTIES = {
    ("film", "Film"): ("width", "height", "frames", "background", "layers"),
    ("history", "History"): ("present",),
}


class InterfaceTest(unittest.TestCase):
    def check_all(self, table, is_kind):
        for file, names in table.items():
            module = importlib.import_module("onlythedirt." + file)
            for name, arguments in names.items():
                with self.subTest(file=file, name=name):
                    found = getattr(module, name)
                    self.assertTrue(is_kind(found))
                    self.assertEqual(found.__module__, module.__name__)
                    self.assertEqual(str(inspect.signature(found)), arguments)

    def test_functions(self):
        self.check_all(FUNCTIONS, inspect.isfunction)

    def test_classes(self):
        self.check_all(CLASSES, inspect.isclass)

    def test_methods_are_defined_in_the_class_itself(self):
        for (file, kind), names in METHODS.items():
            own = vars(getattr(importlib.import_module("onlythedirt." + file), kind))
            for name, arguments in names.items():
                with self.subTest(kind=kind, name=name):
                    self.assertTrue(inspect.isfunction(own[name]))
                    self.assertEqual(str(inspect.signature(own[name])), arguments)

    def test_properties_are_defined_in_the_class_itself(self):
        for (file, kind), names in PROPERTIES.items():
            own = vars(getattr(importlib.import_module("onlythedirt." + file), kind))
            for name in names:
                with self.subTest(kind=kind, name=name):
                    self.assertIsInstance(own[name], property)
                    self.assertIsNone(own[name].fset)


if __name__ == "__main__":
    unittest.main()
