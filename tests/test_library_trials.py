import unittest

from alltriangular.errors import Broken, InUse, NothingToUndo, UnknownName
from alltriangular.libraries import Library
from raising import raised
from test_growing_trials import Halt
from test_libraries import STAIR_LOT, SWING_LOT, TURN_LOT, filled_library, put, stands, told


def spoil(library):
    """Changes of all kinds."""
    library.lift(0)
    library["new"] = TURN_LOT
    library.wish("new", ("roots",))
    library.lift(2)
    library["stairs"] = STAIR_LOT
    library.remove("stairs")


class Trials(unittest.TestCase):
    def setUp(self):
        self.library = filled_library()
        self.library.lift(3)
        self.before = told(self.library)
        self.stands = stands(self.filled_again())

    def filled_again(self):
        library = filled_library()
        library.lift(3)
        return library

    def is_as_it_was(self):
        self.assertEqual(told(self.library), self.before)

    def tearDown(self):
        """Names, lots and wishes are as they were, and what can be taken back."""
        self.is_as_it_was()
        self.assertEqual(stands(self.library), self.stands)


class ExceptionTest(Trials):
    def test_all_is_put_back(self):
        for error in (Halt("x"), ValueError("y"), KeyboardInterrupt(), StopIteration()):
            with self.assertRaises(error.__class__) as caught:
                with self.library.trial() as library:
                    self.assertIs(library, self.library)
                    spoil(library)
                    self.assertNotEqual(told(library), self.before)
                    raise error
            self.assertIs(caught.exception, error)
            self.is_as_it_was()

    def test_the_librarys_own_errors(self):
        for action, error in ((lambda library: put(library, "turn", SWING_LOT), Broken), (lambda library: library["z"], UnknownName),
                              (lambda library: library.remove("turn"), InUse),
                              (lambda library: [library.undo() for _ in range(99)], NothingToUndo)):
            with self.assertRaises(error):
                with self.library.trial() as library:
                    spoil(library)
                    action(library)
            self.is_as_it_was()

    def test_undo_to_before_the_trial(self):
        with self.assertRaises(Halt):
            with self.library.trial() as library:
                for stand in self.stands:
                    library.undo()
                    self.assertEqual(told(library), stand)
                self.assertEqual(raised(library.undo), ("NothingToUndo", {}))
                library["a"] = SWING_LOT
                raise Halt

    def test_nothing_done(self):
        with self.assertRaises(Halt):
            with self.library.trial():
                raise Halt

    def test_a_caught_error_stays_within(self):
        with self.assertRaises(Halt):
            with self.library.trial() as library:
                self.assertEqual(raised(put, library, "turn", SWING_LOT), ("Broken", {"index": 2}))
                spoil(library)
                raise Halt

    def test_trials_within_trials(self):
        with self.assertRaises(Halt):
            with self.library.trial() as library:
                library["a"] = TURN_LOT
                outer = told(library)
                with self.assertRaises(Halt):
                    with library.trial() as again:
                        self.assertIs(again, library)
                        spoil(again)
                        raise Halt
                self.assertEqual(told(library), outer)
                with library.trial():
                    library["b"] = TURN_LOT
                    with library.trial():
                        library.undo()
                        library.undo()
                        library["c"] = TURN_LOT
                self.assertEqual((library.names, library.changes), (("c", "stairs", "swing", "turn"), 10))
                raise Halt

    def test_one_object_for_several_statements(self):
        trial = self.library.trial()
        for _ in range(3):
            with self.assertRaises(Halt):
                with trial as library:
                    self.assertIs(library, self.library)
                    spoil(library)
                    raise Halt
            self.is_as_it_was()

    def test_one_object_within_itself(self):
        trial = self.library.trial()
        with self.assertRaises(Halt):
            with trial:
                self.library["a"] = TURN_LOT
                outer = told(self.library)
                with self.assertRaises(Halt):
                    with trial as library:
                        spoil(library)
                        inner = told(library)
                        with self.assertRaises(Halt):
                            with trial:
                                library.undo()
                                library.undo()
                                raise Halt
                        self.assertEqual(told(library), inner)
                        raise Halt
                self.assertEqual(told(self.library), outer)
                with trial:
                    self.library["b"] = TURN_LOT
                self.assertEqual(self.library.changes, outer[3] + 1)
                raise Halt

    def test_tried(self):
        error = Halt("x")

        def action(library):
            spoil(library)
            raise error
        for call in (lambda: self.library.tried(action), lambda: self.library.tried(action=action)):
            with self.assertRaises(Halt) as caught:
                call()
            self.assertIs(caught.exception, error)
            self.is_as_it_was()
        self.assertEqual(raised(self.library.tried, lambda library: [spoil(library), library["z"]]), ("UnknownName", {"given": "z"}))

    def test_asking_only(self):
        self.assertEqual(self.library.tried(told), self.before)
        self.assertEqual(self.library.tried(len), 3)


class NoExceptionTest(unittest.TestCase):
    def setUp(self):
        self.library = filled_library()

    def test_what_was_done_stays(self):
        other = filled_library()
        with self.library.trial() as library:
            spoil(library)
        spoil(other)
        self.assertEqual(told(self.library), told(other))
        self.assertEqual(stands(self.library), stands(other))

    def test_without_as(self):
        with self.library.trial():
            self.library["a"] = TURN_LOT
        self.assertEqual((self.library.changes, "a" in self.library), (9, True))

    def test_undo_to_before_the_trial(self):
        with self.library.trial() as library:
            library["a"] = TURN_LOT
            for _ in range(4):
                library.undo()
        self.assertEqual((self.library.changes, self.library.wishes), (5, (("stairs", ("plain",)), ("swing", ("all",)))))
        self.assertEqual(len(stands(self.library)), 5)

    def test_left_by_return_break_and_continue(self):
        def left():
            with self.library.trial() as library:
                library["a"] = TURN_LOT
                return library.changes
        self.assertEqual(left(), 9)
        for step in (0, 1):
            with self.library.trial() as library:
                library["b"] = TURN_LOT
                if step == 0:
                    continue
                break
        self.assertEqual(self.library.changes, 11)

    def test_an_error_caught_within(self):
        with self.library.trial() as library:
            library["a"] = TURN_LOT
            with self.assertRaises(Broken):
                library["turn"] = SWING_LOT
        self.assertEqual((self.library["turn"], self.library.changes), (TURN_LOT, 9))

    def test_one_object(self):
        trial = self.library.trial()
        with trial:
            self.library["a"] = TURN_LOT
        with trial:
            self.library["b"] = TURN_LOT
            with trial:
                self.library["c"] = TURN_LOT
            with self.assertRaises(Halt):
                with trial:
                    self.library["d"] = TURN_LOT
                    raise Halt
        self.assertEqual((self.library.names, self.library.changes), (("a", "b", "c", "stairs", "swing", "turn"), 11))

    def test_one_object_begins_when_the_statement_begins(self):
        trial = self.library.trial()
        self.library["a"] = TURN_LOT
        before = told(self.library)
        with self.assertRaises(Halt):
            with trial:
                self.library["b"] = TURN_LOT
                raise Halt
        self.assertEqual(told(self.library), before)

    def test_an_exception_of_the_outer_one_alone(self):
        library = Library()
        with self.assertRaises(Halt):
            with library.trial():
                with library.trial():
                    library["a"] = TURN_LOT
                self.assertEqual(library.changes, 1)
                raise Halt
        self.assertEqual(told(library), ((), {}, (), 0, 0, True))

    def test_two_libraries(self):
        other = Library()
        with self.assertRaises(Halt):
            with self.library.trial():
                other["a"] = TURN_LOT
                self.library["a"] = TURN_LOT
                raise Halt
        self.assertEqual((other.names, self.library.changes), (("a",), 8))

    def test_tried(self):
        value = object()
        self.assertIs(self.library.tried(lambda library: value), value)
        self.assertIs(self.library.tried(action=lambda library: library), self.library)
        self.assertIsNone(self.library.tried(lambda library: put(library, "a", TURN_LOT)))
        self.assertEqual((self.library.changes, self.library["a"]), (9, TURN_LOT))
        self.assertEqual(self.library.tried(lambda library: library.tried(lambda one: [one.undo(), one.changes])), [None, 8])
        self.assertEqual(told(self.library), told(filled_library()))


if __name__ == "__main__":
    unittest.main()
