"""Viewers (points 4.10 and 4.11)."""

import random
import unittest

from onlythedirt.errors import BadCut, BadEdit, BadFilm, BadFrame, FilmError, NothingToRedo, NothingToUndo, UnknownLayer
from onlythedirt.film import Film, same_film
from onlythedirt.viewer import Viewer
from tests.filmwise import HIGH, LOW, dirt_points, everything, example, picture, random_film
from tests.pointwise import written
from tests.someedits import random_edit
from tests.wrong import NO_NUMBERS

ROWS = [[50, 200, 200, 10], [50, 50, 50, 10]]
RIGHT = ("box", "low", (1, 0, 3, 2))


class ViewerCase(unittest.TestCase):
    def check_bad_frame(self, function, frame):
        with self.assertRaises(BadFrame) as caught:
            function(frame)
        self.assertIs(caught.exception.place, frame)

    def shown(self, *frames):
        """A viewer of the example that has shown these frames."""
        viewer = Viewer(example())
        for frame in frames:
            viewer.show(frame)
        return viewer


class ShowTest(ViewerCase):
    def test_the_example(self):
        viewer = Viewer(Film(4, 2, 9, 10, [LOW, HIGH]))
        self.assertEqual(viewer.show(0), ROWS)
        self.assertIsNone(viewer.edit(RIGHT))
        self.assertEqual(viewer.dirt(0), [(0, 0, 1, 2), (3, 0, 4, 2)])
        self.assertEqual(viewer.show(0), [[10, 200, 200, 50], [10, 50, 50, 50]])
        self.assertEqual(viewer.worked(), 12)

    def test_a_new_viewer(self):
        viewer = Viewer(example())
        self.assertEqual(everything(viewer.film()), everything(example()))
        self.assertEqual((viewer.kept(), viewer.worked(), viewer.counts()), ([], 0, (0, 0)))

    def test_a_frame_shown_first_and_again(self):
        viewer = self.shown(3)
        self.assertEqual((viewer.kept(), viewer.worked(), viewer.dirt(3)), ([3], 8, []))
        self.assertEqual(viewer.show(3), ROWS)
        self.assertEqual((viewer.kept(), viewer.worked(), viewer.dirt(3)), ([3], 8, []))

    def test_each_frame_is_kept_by_itself(self):
        viewer = self.shown(5, 0, 8, 5, 2)
        self.assertEqual((viewer.kept(), viewer.worked()), ([0, 2, 5, 8], 32))

    def test_what_is_not_kept_has_no_dirt(self):
        viewer = Viewer(example())
        viewer.edit(RIGHT)
        self.check_bad_frame(viewer.dirt, 0)
        self.assertEqual(viewer.show(0), [[10, 200, 200, 50], [10, 50, 50, 50]])
        self.assertEqual((viewer.worked(), viewer.dirt(0)), (8, []))

    def test_behind_several_edits(self):
        viewer = self.shown(0)
        viewer.edit(("background", 11))
        self.assertEqual(viewer.dirt(0), [(3, 0, 4, 2)])
        viewer.edit(("box", "high", (0, 1, 2, 1)))
        self.assertEqual(viewer.dirt(0), [(1, 0, 4, 1), (0, 1, 2, 2), (3, 1, 4, 2)])
        self.assertEqual(viewer.show(0), [[50, 50, 50, 11], [200, 200, 50, 11]])
        self.assertEqual((viewer.worked(), viewer.dirt(0)), (8 + 6, []))

    def test_dirt_stays_where_an_edit_is_undone(self):
        viewer = self.shown(0)
        viewer.edit(RIGHT)
        viewer.undo()
        self.assertEqual(viewer.dirt(0), [(0, 0, 1, 2), (3, 0, 4, 2)])
        self.assertEqual(viewer.show(0), ROWS)
        self.assertEqual((viewer.worked(), viewer.dirt(0)), (12, []))

    def test_undo_and_redo_make_dirt(self):
        viewer = self.shown(0)
        viewer.edit(RIGHT)
        viewer.show(0)
        self.assertIsNone(viewer.undo())
        self.assertEqual(viewer.dirt(0), [(0, 0, 1, 2), (3, 0, 4, 2)])
        self.assertEqual(viewer.show(0), ROWS)
        self.assertIsNone(viewer.redo())
        self.assertEqual(viewer.dirt(0), [(0, 0, 1, 2), (3, 0, 4, 2)])
        self.assertEqual(viewer.show(0), [[10, 200, 200, 50], [10, 50, 50, 50]])
        self.assertEqual(viewer.worked(), 8 + 3 * 4)

    def test_an_edit_without_dirt(self):
        viewer = self.shown(0)
        viewer.edit(("layers", 0, 1, (("other",) + LOW[1:],)))
        self.assertEqual(viewer.dirt(0), [])
        self.assertEqual(viewer.show(0), ROWS)
        self.assertEqual(viewer.worked(), 8)

    def test_an_all_is_one_edit(self):
        viewer = self.shown(0)
        viewer.edit(("all", (("background", 99), ("size", 1, 1), ("frames", 1), ("size", 4, 2), ("frames", 9))))
        self.assertEqual((viewer.kept(), viewer.dirt(0)), ([0], [(3, 0, 4, 2)]))
        viewer.edit(("all", (("background", 1), ("background", 99))))
        self.assertEqual(viewer.dirt(0), [(3, 0, 4, 2)])
        self.assertEqual(viewer.show(0), [[50, 200, 200, 99], [50, 50, 50, 99]])
        self.assertEqual(viewer.worked(), 8 + 2)

    def test_the_dirt_of_each_frame(self):
        viewer = self.shown(0, 4, 8)
        viewer.edit(("cut", "low", 4))
        self.assertEqual([viewer.dirt(frame) for frame in (0, 4, 8)], [[], [], []])
        viewer.edit(("lift", "low", 4, 6))
        self.assertEqual([viewer.dirt(frame) for frame in (0, 4, 8)], [[], [(0, 0, 1, 1), (0, 1, 3, 2)], []])
        self.assertEqual([viewer.show(frame) for frame in (0, 4, 8)], [ROWS, [[10, 200, 200, 10], [10] * 4], ROWS])
        self.assertEqual(viewer.worked(), 24 + 4)


class KeptTest(ViewerCase):
    def test_fewer_frames(self):
        viewer = self.shown(0, 3, 4, 8)
        viewer.edit(("frames", 4))
        self.assertEqual(viewer.kept(), [0, 3])
        for frame in (4, 8):
            self.check_bad_frame(viewer.show, frame)
            self.check_bad_frame(viewer.dirt, frame)
        viewer.undo()
        self.assertEqual((viewer.kept(), viewer.dirt(3)), ([0, 3], []))
        self.check_bad_frame(viewer.dirt, 4)
        self.assertEqual((viewer.show(4), viewer.worked()), (ROWS, 40))
        viewer.redo()
        self.assertEqual(viewer.kept(), [0, 3])

    def test_more_frames(self):
        viewer = self.shown(0, 8)
        viewer.edit(("frames", 1000))
        self.assertEqual(viewer.kept(), [0, 8])
        self.assertEqual(viewer.show(999), [[10] * 4] * 2)
        viewer.undo()
        self.assertEqual(viewer.kept(), [0, 8])

    def test_another_size(self):
        for size in ((4, 3), (5, 2), (2, 4), (1, 1)):
            viewer = self.shown(0, 8)
            viewer.edit(("size",) + size)
            self.assertEqual((viewer.kept(), viewer.worked()), ([], 16))
            self.check_bad_frame(viewer.dirt, 0)
            self.assertEqual(viewer.show(0), picture(viewer.film(), 0))
            self.assertEqual((viewer.kept(), viewer.worked()), ([0], 16 + size[0] * size[1]))
            viewer.undo()
            self.assertEqual(viewer.kept(), [])
            self.assertEqual(viewer.show(0), ROWS)
            viewer.redo()
            self.assertEqual(viewer.kept(), [])

    def test_the_same_size(self):
        viewer = self.shown(0, 8)
        viewer.edit(("size", 4, 2))
        self.assertEqual((viewer.kept(), viewer.dirt(0), viewer.dirt(8)), ([0, 8], [], []))

    def test_forget(self):
        viewer = self.shown(0, 8)
        viewer.edit(RIGHT)
        self.assertIsNone(viewer.forget())
        self.assertEqual((viewer.kept(), viewer.worked(), viewer.counts()), ([], 16, (1, 0)))
        self.check_bad_frame(viewer.dirt, 0)
        self.assertEqual(viewer.show(0), [[10, 200, 200, 50], [10, 50, 50, 50]])
        self.assertEqual((viewer.kept(), viewer.worked(), viewer.dirt(0)), ([0], 24, []))
        viewer.forget()
        viewer.forget()
        self.assertEqual(viewer.kept(), [])

    def test_lists_that_were_handed_out_may_be_changed(self):
        viewer = self.shown(0, 8)
        viewer.edit(RIGHT)
        rows, dirt, kept, layers = viewer.show(0), viewer.dirt(8), viewer.kept(), viewer.film().layers
        self.assertEqual({type(one) for one in (rows, rows[0], dirt, kept)}, {list})
        rows[0][0] = 99
        rows.pop()
        for one in (dirt, kept, layers):
            one.clear()
        self.assertEqual(viewer.show(0), [[10, 200, 200, 50], [10, 50, 50, 50]])
        self.assertEqual((viewer.dirt(8), viewer.kept()), ([(0, 0, 1, 2), (3, 0, 4, 2)], [0, 8]))
        first = viewer.show(1)
        first[0][0] = 99
        self.assertEqual(viewer.show(1), [[10, 200, 200, 50], [10, 50, 50, 50]])
        self.assertEqual(len(viewer.film().layers), 2)

    def test_two_viewers_of_one_film(self):
        film = example()
        first, second = Viewer(film), Viewer(film)
        first.show(0)
        first.edit(RIGHT)
        self.assertEqual((second.kept(), second.worked(), second.counts()), ([], 0, (0, 0)))
        self.assertEqual(second.show(0), ROWS)


class ErrorTest(ViewerCase):
    def test_numbers_that_are_no_frames(self):
        viewer = self.shown(0, 1, 8)
        for frame in (-1, -8, -9, 9, 10, 1000, 10 ** 40, -10 ** 40) + NO_NUMBERS:
            self.check_bad_frame(viewer.show, frame)
            self.check_bad_frame(viewer.dirt, frame)
        self.assertEqual((viewer.kept(), viewer.worked()), ([0, 1, 8], 24))

    def test_frames_that_are_not_kept(self):
        viewer = self.shown(0, 8)
        for frame in (1, 2, 7):
            self.check_bad_frame(viewer.dirt, frame)
        self.assertEqual(viewer.kept(), [0, 8])

    def test_true_and_false_are_no_frames(self):
        viewer = self.shown(0, 1)
        for frame in (True, False):
            self.check_bad_frame(viewer.show, frame)
            self.check_bad_frame(viewer.dirt, frame)

    def test_what_raises_an_error_changes_nothing(self):
        viewer = self.shown(0, 8)
        viewer.edit(RIGHT)
        viewer.edit(("background", 11))
        viewer.undo()
        before = everything(viewer.film()), viewer.dirt(0), viewer.dirt(8)
        for edit, kind, place in (
            ((), BadEdit, None), (("frames",), BadEdit, None), (("box", "three", ()), UnknownLayer, "three"),
            (("cut", "low", 99), BadCut, 99), (("frames", 0), BadFilm, "frames"), (("size", 0, 1), BadFilm, "size"),
            (("all", (("size", 1, 1), ("frames", 1), ("cut", "low", 0))), BadCut, 0),
        ):
            with self.assertRaises(kind) as caught:
                viewer.edit(edit)
            self.assertEqual(caught.exception.place, place)
            self.assertEqual((everything(viewer.film()), viewer.dirt(0), viewer.dirt(8)), before)
            self.assertEqual((viewer.kept(), viewer.worked(), viewer.counts()), ([0, 8], 16, (1, 1)))

    def test_nothing_to_undo_and_nothing_to_redo(self):
        viewer = self.shown(0)
        for function, kind in ((viewer.undo, NothingToUndo), (viewer.redo, NothingToRedo)):
            with self.assertRaises(kind):
                function()
        self.assertEqual((viewer.kept(), viewer.worked(), viewer.counts(), viewer.dirt(0)), ([0], 8, (0, 0), []))
        viewer.edit(RIGHT)
        self.assertEqual(viewer.counts(), (1, 0))
        viewer.undo()
        self.assertEqual(viewer.counts(), (0, 1))


class Model:
    """What points 4.10 and 4.11 say of a viewer: sets of points instead of regions."""

    def __init__(self, film):
        self.past, self.undone, self.dirt, self.worked = [film], [], {}, 0

    def show(self, frame):
        film = self.past[-1]
        whole = {(x, y) for x in range(film.width) for y in range(film.height)}
        self.worked += len(self.dirt.get(frame, whole))
        self.dirt[frame] = set()
        return picture(film, frame)

    def go(self, step, behind):
        """Take note of an edit that led to a film, or of an undo or a redo."""
        before = self.past[-1]
        if step == "edit":
            self.past.append(behind)
            self.undone = []
        elif step == "undo":
            self.undone.append(self.past.pop())
        else:
            self.past.append(self.undone.pop())
        behind = self.past[-1]
        same_size = (before.width, before.height) == (behind.width, behind.height)
        self.dirt = {
            frame: points | dirt_points(before, behind, frame)
            for frame, points in self.dirt.items() if same_size and frame < behind.frames
        }


class RandomTest(unittest.TestCase):
    def check(self, viewer, model):
        self.assertIs(same_film(viewer.film(), model.past[-1]), True)
        self.assertEqual(viewer.kept(), sorted(model.dirt))
        self.assertEqual(viewer.worked(), model.worked)
        self.assertEqual(viewer.counts(), (len(model.past) - 1, len(model.undone)))
        for frame, points in model.dirt.items():
            self.assertEqual(viewer.dirt(frame), written(points))

    def go(self, source, viewer, model):
        step = source.choice(("edit", "edit", "undo", "redo"))
        try:
            if step == "edit":
                viewer.edit(random_edit(source, viewer.film()))
            else:
                {"undo": viewer.undo, "redo": viewer.redo}[step]()
        except FilmError:
            return
        model.go(step, viewer.film())

    def test_rows_of_steps(self):
        source = random.Random(139)
        for _ in range(50):
            film = random_film(source)
            viewer, model = Viewer(film), Model(film)
            for _ in range(30):
                step = source.randrange(20)
                if step == 0:
                    viewer.forget()
                    model.dirt = {}
                elif step < 9:
                    frame = source.randrange(viewer.film().frames)
                    self.assertEqual(viewer.show(frame), model.show(frame))
                else:
                    self.go(source, viewer, model)
                self.check(viewer, model)

    def test_long_rows_with_few_frames(self):
        source = random.Random(149)
        for _ in range(20):
            film = random_film(source)
            viewer, model = Viewer(film), Model(film)
            for _ in range(40):
                self.go(source, viewer, model)
                for frame in range(0, viewer.film().frames, 4):
                    if source.randrange(2):
                        self.assertEqual(viewer.show(frame), model.show(frame))
                self.check(viewer, model)


if __name__ == "__main__":
    unittest.main()
