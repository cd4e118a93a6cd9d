import unittest

from alltriangular.errors import InvalidTable, NothingToUndo, OtherSize, TooMany
from alltriangular.growing import Growing
from raising import raised
from samples import STAIRS, SWING, TURN
from test_growing import grown, told, undone_tables, wanted


class Halt(Exception):
    """An error of the tests' own."""


class TrialTest(unittest.TestCase):
    def setUp(self):
        self.growing = grown(2, STAIRS[0])

    def tearDown(self):
        """The growing is as it was, with what could be taken back."""
        self.assertEqual(told(self.growing), wanted(2, STAIRS[:1]))
        self.assertEqual(undone_tables(self.growing), [()])

    def test_the_block_ends_by_itself(self):
        with self.growing.trial() as growing:
            self.assertIs(growing, self.growing)
            self.assertEqual(growing.add(SWING[1]), 4)
            self.assertEqual(told(growing), wanted(2, (STAIRS[0], SWING[1])))

    def test_without_as(self):
        with self.growing.trial():
            self.growing.add(SWING[0])

    def test_nothing_done(self):
        with self.growing.trial():
            pass

    def test_an_exception_is_passed_on(self):
        for error in (Halt("x"), ValueError("y"), KeyboardInterrupt(), StopIteration()):
            with self.assertRaises(error.__class__) as caught:
                with self.growing.trial() as growing:
                    growing.add(SWING[0])
                    growing.add(SWING[1])
                    raise error
            self.assertIs(caught.exception, error)
            self.assertEqual(self.growing.tables, STAIRS[:1])

    def test_the_growings_own_errors(self):
        for action, error in ((lambda growing: growing.add(None), InvalidTable), (lambda growing: growing.add(((1,),)), OtherSize),
                              (lambda growing: [growing.add(TURN[0]) for _ in range(3)], TooMany),
                              (lambda growing: [growing.undo() for _ in range(2)], NothingToUndo)):
            with self.assertRaises(error):
                with self.growing.trial() as growing:
                    growing.add(STAIRS[1])
                    growing.undo()
                    action(growing)
            self.assertEqual(told(self.growing), wanted(2, STAIRS[:1]))

    def test_undo_to_before_the_trial(self):
        with self.growing.trial() as growing:
            growing.undo()
            self.assertEqual(told(growing), wanted(2, ()))
            self.assertEqual(raised(growing.undo), ("NothingToUndo", {}))
            growing.add(SWING[0])
            growing.add(SWING[1])
            self.assertEqual(told(growing), wanted(2, SWING))

    def test_left_by_return_break_and_continue(self):
        def left():
            with self.growing.trial() as growing:
                growing.add(SWING[0])
                return len(growing)
        self.assertEqual(left(), 2)
        for step in (0, 1):
            with self.growing.trial() as growing:
                growing.undo()
                if step == 0:
                    continue
                break
        self.assertEqual(self.growing.tables, STAIRS[:1])

    def test_trials_within_trials(self):
        with self.growing.trial() as growing:
            growing.add(SWING[0])
            with growing.trial() as again:
                self.assertIs(again, self.growing)
                again.add(SWING[1])
                with again.trial():
                    again.undo()
                    again.undo()
                    again.undo()
                    self.assertEqual(told(again), wanted(2, ()))
                self.assertEqual(again.tables, (STAIRS[0],) + SWING)
            self.assertEqual(told(growing), wanted(2, (STAIRS[0], SWING[0])))
            growing.undo()
            self.assertEqual(told(growing), wanted(2, STAIRS[:1]))

    def test_an_exception_through_several(self):
        with self.assertRaises(Halt):
            with self.growing.trial() as growing:
                growing.undo()
                try:
                    with growing.trial():
                        growing.add(SWING[0])
                        raise Halt
                finally:
                    self.assertEqual(told(growing), wanted(2, ()))
        with self.growing.trial() as growing:
            growing.add(SWING[0])
            with self.assertRaises(Halt):
                with growing.trial():
                    growing.add(SWING[1])
                    raise Halt
            self.assertEqual(growing.tables, (STAIRS[0], SWING[0]))

    def test_one_object_for_several_statements(self):
        trial = self.growing.trial()
        for tables in (SWING, TURN, STAIRS):
            with trial as growing:
                self.assertIs(growing, self.growing)
                for table in tables:
                    growing.add(table)
                self.assertEqual(growing.tables, STAIRS[:1] + tables)
            self.assertEqual(told(self.growing), wanted(2, STAIRS[:1]))

    def test_one_object_begins_when_the_statement_begins(self):
        trial = self.growing.trial()
        self.growing.add(SWING[0])
        with trial:
            self.growing.undo()
            self.growing.undo()
        self.assertEqual(told(self.growing), wanted(2, (STAIRS[0], SWING[0])))
        self.growing.undo()
        with trial:
            self.growing.add(SWING[1])
        self.assertEqual(told(self.growing), wanted(2, STAIRS[:1]))

    def test_one_object_within_itself(self):
        trial = self.growing.trial()
        with trial:
            self.growing.add(SWING[0])
            with trial as growing:
                growing.add(SWING[1])
                with trial:
                    growing.undo()
                    growing.undo()
                    self.assertEqual(growing.tables, STAIRS[:1])
                self.assertEqual(growing.tables, (STAIRS[0],) + SWING)
            self.assertEqual(told(self.growing), wanted(2, (STAIRS[0], SWING[0])))
            with self.assertRaises(Halt):
                with trial:
                    self.growing.undo()
                    raise Halt
            self.assertEqual(self.growing.tables, (STAIRS[0], SWING[0]))
        self.assertEqual(told(self.growing), wanted(2, STAIRS[:1]))
        with trial:
            self.growing.undo()

    def test_two_objects_within_one_another(self):
        one, other = self.growing.trial(), self.growing.trial()
        with one:
            self.growing.add(SWING[0])
            with other:
                self.growing.add(SWING[1])
                with one:
                    self.growing.undo()
                    with other:
                        self.growing.undo()
                        self.growing.undo()
                    self.assertEqual(self.growing.tables, (STAIRS[0], SWING[0]))
                self.assertEqual(self.growing.tables, (STAIRS[0],) + SWING)
            self.assertEqual(self.growing.tables, (STAIRS[0], SWING[0]))

    def test_another_growing_is_left_alone(self):
        other = Growing(2)
        with self.growing.trial():
            other.add(SWING[0])
            with other.trial():
                other.add(SWING[1])
                self.growing.add(TURN[0])
            self.assertEqual((other.tables, self.growing.tables), (SWING[:1], (STAIRS[0],) + TURN))
        self.assertEqual(told(other), wanted(2, SWING[:1]))


class TriedTest(unittest.TestCase):
    def setUp(self):
        self.growing = grown(2, STAIRS[0])

    def tearDown(self):
        self.assertEqual(told(self.growing), wanted(2, STAIRS[:1]))
        self.assertEqual(undone_tables(self.growing), [()])

    def test_what_it_returns(self):
        value = object()
        self.assertIs(self.growing.tried(lambda growing: value), value)
        self.assertIs(self.growing.tried(action=lambda growing: growing), self.growing)
        self.assertIsNone(self.growing.tried(lambda growing: None))
        self.assertEqual(self.growing.tried(len), 1)

    def test_what_is_done_is_taken_back(self):
        self.assertEqual(self.growing.tried(lambda growing: (growing.add(SWING[1]), growing.bar, len(growing))),
                         (4, ("word", 0, 1, (0, 1)), 2))
        self.assertIsNone(self.growing.tried(lambda growing: growing.undo()))

    def test_errors_are_passed_on(self):
        error = Halt("x")

        def action(growing):
            growing.add(SWING[0])
            raise error
        with self.assertRaises(Halt) as caught:
            self.growing.tried(action)
        self.assertIs(caught.exception, error)
        self.assertEqual(raised(self.growing.tried, lambda growing: growing.add(((1,),))), ("OtherSize", {"given": 1}))
        self.assertEqual(raised(self.growing.tried, lambda growing: [growing.undo(), growing.undo()]), ("NothingToUndo", {}))

    def test_within_one_another(self):
        def inner(growing):
            growing.undo()
            return len(growing)

        def outer(growing):
            growing.add(SWING[0])
            return growing.tried(inner), len(growing), growing.tried(action=lambda one: one.add(SWING[1])), len(growing)
        self.assertEqual(self.growing.tried(outer), (1, 2, 4, 2))


if __name__ == "__main__":
    unittest.main()
