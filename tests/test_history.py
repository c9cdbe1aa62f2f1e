"""Undo and redo (point 3.15)."""

import random
import unittest

from onlythedirt.errors import BadCut, BadEdit, BadFilm, FilmError, NothingToRedo, NothingToUndo, UnknownLayer
from onlythedirt.film import same_film
from onlythedirt.history import History
from tests.filmwise import everything, random_film
from tests.someedits import EDITS, random_edit, some_film


class HistoryTest(unittest.TestCase):
    def check(self, history, counts, background):
        self.assertEqual(history.counts(), counts)
        self.assertIs(type(history.counts()), tuple)
        self.assertEqual(history.present.background, background)

    def check_nothing(self, function, kind):
        with self.assertRaises(kind) as caught:
            function()
        self.assertIsNone(caught.exception.place)

    def edited(self, *values):
        history = History(some_film())
        for value in values:
            self.assertIsNone(history.edit(("background", value)))
        return history

    def test_without_edits(self):
        film = some_film()
        history = History(film)
        self.check(history, (0, 0), 10)
        self.assertEqual(everything(history.present), everything(film))
        self.check_nothing(history.undo, NothingToUndo)
        self.check_nothing(history.redo, NothingToRedo)
        self.check(history, (0, 0), 10)

    def test_edits(self):
        self.check(self.edited(1), (1, 0), 1)
        self.check(self.edited(1, 2, 3), (3, 0), 3)

    def test_undo_and_redo_in_rows(self):
        history = self.edited(1, 2, 3)
        for counts, background in (((2, 1), 2), ((1, 2), 1), ((0, 3), 10)):
            self.assertIsNone(history.undo())
            self.check(history, counts, background)
        self.check_nothing(history.undo, NothingToUndo)
        self.check(history, (0, 3), 10)
        for counts, background in (((1, 2), 1), ((2, 1), 2), ((3, 0), 3)):
            self.assertIsNone(history.redo())
            self.check(history, counts, background)
        self.check_nothing(history.redo, NothingToRedo)
        self.check(history, (3, 0), 3)

    def test_to_and_fro(self):
        history = self.edited(1, 2)
        for _ in range(3):
            history.undo()
            self.check(history, (1, 1), 1)
            history.redo()
            self.check(history, (2, 0), 2)

    def test_an_edit_behind_an_undo_leaves_nothing_to_redo(self):
        history = self.edited(1, 2, 3)
        history.undo()
        history.undo()
        history.edit(("background", 4))
        self.check(history, (2, 0), 4)
        self.check_nothing(history.redo, NothingToRedo)
        history.undo()
        self.check(history, (1, 1), 1)
        history.redo()
        self.check(history, (2, 0), 4)

    def test_an_edit_that_changes_nothing_is_an_edit(self):
        history = self.edited(1)
        history.undo()
        history.edit(("all", ()))
        self.check(history, (1, 0), 10)
        self.check_nothing(history.redo, NothingToRedo)

    def test_what_raises_an_error_changes_nothing(self):
        history = self.edited(1, 2)
        history.undo()
        for edit, kind in (
            ((), BadEdit), (("cut", "one", True), BadEdit), (("cut", "three", 1), UnknownLayer),
            (("cut", "one", 99), BadCut), (("background", 256), BadFilm),
            (("all", (("background", 5), ("cut", "one", 99))), BadCut),
        ):
            with self.assertRaises(kind):
                history.edit(edit)
            self.check(history, (1, 1), 1)
        history.redo()
        self.check(history, (2, 0), 2)

    def test_each_word(self):
        for edit in EDITS:
            history = History(some_film())
            history.edit(edit)
            behind = history.present
            history.undo()
            self.assertEqual(everything(history.present), everything(some_film()))
            history.redo()
            self.assertIs(same_film(history.present, behind), True)

    def test_random_steps(self):
        source = random.Random(137)
        for _ in range(60):
            film = random_film(source)
            history = History(film)
            past, undone = [everything(film)], []
            for _ in range(25):
                step = source.choice(("edit", "edit", "undo", "redo"))
                try:
                    if step == "edit":
                        history.edit(random_edit(source, history.present))
                        past.append(everything(history.present))
                        undone = []
                    elif step == "undo":
                        history.undo()
                        undone.append(past.pop())
                    else:
                        history.redo()
                        past.append(undone.pop())
                except FilmError as error:
                    expected = {"undo": (len(past) == 1, "NothingToUndo"), "redo": (not undone, "NothingToRedo")}
                    self.assertEqual((True, error.word), expected.get(step, (True, error.word)))
                self.assertEqual(everything(history.present), past[-1])
                self.assertEqual(history.counts(), (len(past) - 1, len(undone)))


if __name__ == "__main__":
    unittest.main()
