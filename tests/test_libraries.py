import unittest
from random import Random

from alltriangular.errors import Broken, InUse, InvalidIndex, InvalidName, InvalidWish, NothingToUndo, NotLot, UnknownName
from alltriangular.libraries import Library
from alltriangular.lots import Lot
from lots_made import all_lots
from raising import Raising, is_one, raised
from samples import STAIRS, SWING, TURN, Sly, no_lots, odd_values
from wishes_made import PLAIN, keeps, no_wishes, word_wishes

STAIR_LOT, SWING_LOT, TURN_LOT = Lot(STAIRS), Lot(SWING), Lot(TURN)

NAMES = ("a", "z", "a1", "x0y9", "abcdefgh", "a1234567", "lot")
NO_NAMES = ["", "A", "aB", "abcdefghi", "a12345678", "1", "1a", "_", "_a", "a_b", "a b", " a", "a ", "a\n", "\n", "a-b", "-", "!", "~",
            ("a",), ["a"], {"a": 1}, (), b"a", STAIR_LOT, ("a", "b")] + odd_values()


def told(library):
    """All that a library tells of itself."""
    lots = {name: library[name] for name in library.names}
    return (library.names, lots, library.wishes, library.changes, len(library), bool(library))


def stands(library):
    """What a library tells after each undoing, till there is nothing more."""
    found = []
    while library.changes:
        library.undo()
        found.append(told(library))
    return found


def put(library, name, lot):
    library[name] = lot


def filled_library():
    """A library with lots and wishes, eight changes in all."""
    library = Library()
    library["stairs"] = STAIR_LOT
    library["swing"] = SWING_LOT
    library["turn"] = TURN_LOT
    library.wish("stairs", ("plain",))
    library.wish("swing", ("all",))
    library.wish("turn", ("commute",))
    library.wish("stairs", ("words", 3))
    library.wish("turn", ("roots",))
    return library


class PutTest(unittest.TestCase):
    def setUp(self):
        self.library = Library()

    def test_at_first(self):
        self.assertEqual(told(self.library), ((), {}, (), 0, 0, True))

    def test_names(self):
        for at, name in enumerate(NAMES):
            self.library[name] = TURN_LOT
            self.assertEqual((len(self.library), self.library.changes), (at + 1, at + 1))
            self.assertIs(name in self.library, True)
        self.assertEqual(self.library.names, tuple(sorted(NAMES)))
        self.assertEqual([self.library.names.__class__] + [name.__class__ for name in self.library.names], [tuple] + [str] * len(NAMES))

    def test_the_very_lot(self):
        for lot in all_lots()[::9]:
            self.library["a"] = lot
            self.assertIs(self.library["a"], lot)

    def test_in_the_place_of_another(self):
        self.library["a"] = STAIR_LOT
        self.library["a"] = TURN_LOT
        self.assertEqual((self.library.names, self.library["a"], self.library.changes), (("a",), TURN_LOT, 2))
        self.library.undo()
        self.assertEqual(self.library["a"], STAIR_LOT)

    def test_the_same_lot_again_is_a_change(self):
        for at in range(3):
            self.library["a"] = TURN_LOT
            self.assertEqual(self.library.changes, at + 1)
        self.assertEqual([stand[3] for stand in stands(self.library)], [2, 1, 0])

    def test_removing(self):
        self.library["a"] = STAIR_LOT
        self.library["b"] = TURN_LOT
        self.assertIsNone(self.library.remove("a"))
        self.assertEqual(told(self.library), (("b",), {"b": TURN_LOT}, (), 3, 1, True))
        self.assertIsNone(self.library.remove(name="b"))
        self.assertEqual(told(self.library), ((), {}, (), 4, 0, True))
        self.library.undo()
        self.library.undo()
        self.assertEqual(told(self.library), (("a", "b"), {"a": STAIR_LOT, "b": TURN_LOT}, (), 2, 2, True))

    def test_contained(self):
        self.library["a"] = TURN_LOT
        self.assertIs("a" in self.library, True)
        for value in NO_NAMES + ["b", "aa", "names"]:
            self.assertIs(value in self.library, False, repr(value))
            self.assertIs(value not in self.library, True)
        self.library.remove("a")
        self.assertIs("a" in self.library, False)

    def test_not_iterated(self):
        self.library["a"] = TURN_LOT
        with self.assertRaises(TypeError):
            list(self.library)


class WishTest(unittest.TestCase):
    def setUp(self):
        self.library = Library()
        self.library["a"] = STAIR_LOT
        self.library["b"] = SWING_LOT

    def test_made_and_lifted(self):
        one, other = ("plain",), ("all",)
        self.assertIsNone(self.library.wish("a", one))
        self.assertIsNone(self.library.wish(name="b", wish=other))
        self.assertIsNone(self.library.wish(wish=("words", 10 ** 40), name="a"))
        self.assertEqual(self.library.wishes, (("a", one), ("b", other), ("a", ("words", 10 ** 40))))
        self.assertIs(self.library.wishes[0][1], one)
        self.assertEqual({pair.__class__ for pair in self.library.wishes} | {self.library.wishes.__class__}, {tuple})
        self.assertEqual(self.library.changes, 5)
        self.assertIsNone(self.library.lift(1))
        self.assertEqual(self.library.wishes, (("a", one), ("a", ("words", 10 ** 40))))
        self.assertIsNone(self.library.lift(index=0))
        self.assertEqual((self.library.wishes, self.library.changes), ((("a", ("words", 10 ** 40)),), 7))

    def test_a_lifted_wish_comes_back_to_its_place(self):
        for wish in (("plain",), ("roots",), ("words", 3), ("words", 4)):
            self.library.wish("a", wish)
        wishes = self.library.wishes
        for at in range(4):
            self.library.lift(at)
            self.assertEqual(self.library.wishes, wishes[:at] + wishes[at + 1:])
            self.library.undo()
            self.assertEqual(self.library.wishes, wishes)

    def test_a_wish_that_holds_already_is_a_change(self):
        for at in range(3):
            self.library.wish("a", ("plain",))
            self.assertEqual((self.library.wishes, self.library.changes), ((("a", ("plain",)),) * (at + 1), 3 + at))

    def test_all_wishes_of_all_lots(self):
        for lot in all_lots()[::4]:
            self.library["c"] = lot
            many = self.library.changes
            for wish in list(PLAIN) + word_wishes(lot.tables):
                holds = keeps(lot.tables, wish)
                found = raised(self.library.wish, "c", wish)
                self.assertEqual(found, None if holds else ("Broken", {"index": 0}), (lot.text, wish))
                if holds:
                    self.assertEqual(self.library.wishes, (("c", wish),))
                    self.library.undo()
                self.assertEqual((self.library.wishes, self.library.changes), ((), many))

    def test_a_broken_wish(self):
        self.library.wish("b", ("all",))
        self.library.wish("a", ("plain",))
        for name, wish in (("a", ("commute",)), ("b", ("plain",)), ("a", ("words", 2)), ("b", ("words", 0))):
            before = told(self.library)
            self.assertEqual(raised(self.library.wish, name, wish), ("Broken", {"index": 2}))
            self.assertEqual(told(self.library), before)

    def test_a_lot_that_breaks_one(self):
        self.library.wish("b", ("words", 4))
        self.library.wish("a", ("words", 3))
        self.library.wish("a", ("plain",))
        self.library.wish("a", ("roots",))
        before = told(self.library)
        for lot, index in ((SWING_LOT, 1), (TURN_LOT, 2), (Lot(SWING[::-1]), 1)):
            with self.assertRaises(Broken) as caught:
                self.library["a"] = lot
            self.assertEqual(caught.exception.index, index)
            self.assertIs(caught.exception.index.__class__, int)
            self.assertEqual(told(self.library), before)
        self.library["b"] = TURN_LOT
        self.library["c"] = SWING_LOT
        self.library["a"] = Lot(SWING[:1] + SWING[:1])
        self.assertEqual(self.library.changes, 9)

    def test_the_first_one_is_told(self):
        """Wishes are asked in their order, whatever they are and however they came to stand there."""
        self.library.wish("a", ("words", 3))
        self.library.wish("a", ("plain",))
        self.library.wish("b", ("all",))
        self.library.wish("a", ("roots",))
        self.assertEqual(raised(put, self.library, "a", SWING_LOT), ("Broken", {"index": 0}))
        self.library.lift(0)
        self.assertEqual(raised(put, self.library, "a", SWING_LOT), ("Broken", {"index": 0}))
        self.library.lift(0)
        self.assertEqual(raised(put, self.library, "a", SWING_LOT), ("Broken", {"index": 1}))
        self.assertEqual(raised(put, self.library, "b", STAIR_LOT), ("Broken", {"index": 0}))
        self.library.undo()
        self.assertEqual(raised(put, self.library, "a", SWING_LOT), ("Broken", {"index": 0}))
        self.library.undo()
        self.library.lift(3)
        self.library.lift(1)
        self.library.lift(0)
        self.library["a"] = SWING_LOT
        self.assertEqual(self.library.wishes, (("b", ("all",)),))

    def test_names_in_use(self):
        self.library.wish("b", ("all",))
        self.library.wish("a", ("plain",))
        self.library.wish("a", ("roots",))
        before = told(self.library)
        self.assertEqual(raised(self.library.remove, "a"), ("InUse", {"index": 1}))
        self.assertEqual(raised(self.library.remove, "b"), ("InUse", {"index": 0}))
        self.assertEqual(told(self.library), before)
        self.library.lift(1)
        self.assertEqual(raised(self.library.remove, "a"), ("InUse", {"index": 1}))
        self.library.lift(1)
        self.library.remove("a")
        self.assertEqual(self.library.names, ("b",))


class UndoTest(unittest.TestCase):
    def test_step_by_step(self):
        library = Library()
        steps = [lambda: put(library, "a", STAIR_LOT), lambda: library.wish("a", ("plain",)), lambda: put(library, "b", SWING_LOT),
                 lambda: library.wish("b", ("all",)), lambda: library.wish("a", ("words", 3)), lambda: put(library, "a", TURN_LOT),
                 lambda: library.lift(0), lambda: put(library, "a", TURN_LOT), lambda: library.lift(1),
                 lambda: library.remove("a"), lambda: library.lift(0), lambda: library.remove("b")]
        before = []
        for at, step in enumerate(steps):
            stand = told(library)
            if at == 5:
                self.assertEqual(raised(step), ("Broken", {"index": 0}))
                self.assertEqual(told(library), stand)
                continue
            self.assertIsNone(step())
            before.append(stand)
        self.assertEqual(told(library), ((), {}, (), 11, 0, True))
        for stand in before[::-1]:
            self.assertIsNone(library.undo())
            self.assertEqual(told(library), stand)
        for _ in range(2):
            with self.assertRaises(NothingToUndo):
                library.undo()
            self.assertEqual(told(library), ((), {}, (), 0, 0, True))

    def test_what_was_taken_back_is_not_taken_back_again(self):
        library = Library()
        library["a"] = TURN_LOT
        library["b"] = TURN_LOT
        library.undo()
        library["c"] = TURN_LOT
        self.assertEqual(library.changes, 2)
        self.assertEqual([stand[0] for stand in stands(library)], [("a",), ()])

    def test_against_stands(self):
        """Many steps by chance, each against a list of what there was before; all wishes hold after each of them."""
        source = Random(131)
        lots = [STAIR_LOT, SWING_LOT, TURN_LOT] + all_lots()[::11]
        wishes = list(PLAIN) + [("words", number) for number in (0, 2, 3, 4, 16)]
        for _ in range(20):
            library, before, now = Library(), [], told(Library())
            for _ in range(60):
                name, lot, wish = source.choice("abc"), source.choice(lots), source.choice(wishes)
                found = source.choice([
                    lambda: raised(put, library, name, lot), lambda: raised(put, library, name, lot),
                    lambda: raised(library.wish, name, wish), lambda: raised(library.wish, name, wish),
                    lambda: raised(library.lift, source.randrange(3)), lambda: raised(library.remove, name),
                    lambda: "undone" if raised(library.undo) is None else ("", {})])()
                if found == "undone":
                    now = before.pop()
                elif found is None:
                    before.append(now)
                    now = told(library)
                    self.assertEqual(now[3], before[-1][3] + 1)
                self.assertEqual(told(library), now)
                self.assertEqual(library.changes, len(before))
                for wished, one in library.wishes:
                    self.assertIs(keeps(library[wished].tables, one), True)


class LibraryTest(unittest.TestCase):
    def test_two_beside_one_another(self):
        one, other = Library(), Library()
        one["a"] = TURN_LOT
        other["b"] = SWING_LOT
        other.wish("b", ("all",))
        self.assertEqual((one.names, one.wishes, one.changes), (("a",), (), 1))
        one.undo()
        self.assertEqual((one.names, other.names, other.changes), ((), ("b",), 2))

    def test_never_equal(self):
        for one, other in ((Library(), Library()), (filled_library(), filled_library()), (Library(), filled_library())):
            self.assertIs(one == other, False)
            self.assertIs(one != other, True)
        library = filled_library()
        for value in odd_values() + ["", (), "stairs", library.names, TURN_LOT, Sly(), Library, {"stairs": STAIR_LOT}]:
            self.assertIs(library == value, False)
            self.assertIs(library != value, True)
        self.assertIs(library == library, True)

    def test_always_true(self):
        library = Library()
        self.assertIs(bool(library), True)
        library["a"] = TURN_LOT
        self.assertIs(bool(library), True)

    def test_asking_changes_nothing(self):
        library = filled_library()
        first = told(library)
        for _ in range(2):
            self.assertEqual(told(library), first)
            self.assertEqual(["stairs" in library, "z" in library, library == library], [True, False, True])
        self.assertEqual([stand[3] for stand in stands(library)], [7, 6, 5, 4, 3, 2, 1, 0])

    def test_properties_cannot_be_set(self):
        library = filled_library()
        first = told(library)
        for name in ("names", "wishes", "changes"):
            with self.assertRaises(AttributeError):
                setattr(library, name, ())
        self.assertEqual(told(library), first)


class WrongTest(Raising, unittest.TestCase):
    def setUp(self):
        self.library = filled_library()
        self.before = told(self.library)

    def tearDown(self):
        self.assertEqual(told(self.library), self.before)
        self.assertEqual(len(stands(self.library)), 8)

    def setting(self, error, attribute, value, name, lot):
        """Setting an item raises this error, with this value in its one attribute."""
        with self.assertRaises(error) as caught:
            self.library[name] = lot
        self.assertEqual(list(vars(caught.exception)), [attribute])
        self.assertTrue(is_one(vars(caught.exception)[attribute], value), (name, lot))

    def test_no_name(self):
        for value in NO_NAMES:
            for lot in (TURN_LOT, None, SWING_LOT):
                self.setting(InvalidName, "given", value, value, lot)

    def test_no_lot(self):
        for value in no_lots():
            for name in ("a", "stairs"):
                self.setting(NotLot, "given", value, name, value)

    def test_broken_comes_last(self):
        self.setting(Broken, "index", 0, "stairs", SWING_LOT)
        self.setting(Broken, "index", 1, "swing", STAIR_LOT)
        self.setting(Broken, "index", 2, "turn", SWING_LOT)
        self.setting(NotLot, "given", SWING, "stairs", SWING)
        self.setting(InvalidName, "given", "Stairs", "Stairs", SWING_LOT)

    def test_unknown_names(self):
        for value in NO_NAMES + ["a", "stair", "stairs ", "Stairs", "turns"]:
            with self.assertRaises(UnknownName) as caught:
                self.library[value]
            self.assertIs(caught.exception.given, value)
            self.assert_raises_with(("UnknownName", "given", value), self.library.remove, ("name", value))
            for wish in (("plain",), ("plain", 1), None, ("words", 0)):
                self.assert_raises_with(("UnknownName", "given", value), self.library.wish, ("name", value), ("wish", wish))

    def test_names_in_use(self):
        for name, index in (("stairs", 0), ("swing", 1), ("turn", 2)):
            self.assert_raises_with(("InUse", "index", index), self.library.remove, ("name", name))
            with self.assertRaises(InUse):
                self.library.remove(name)

    def test_no_wish(self):
        for value in no_wishes():
            for name in ("stairs", "swing"):
                self.assert_raises_with(("InvalidWish", "given", value), self.library.wish, ("name", name), ("wish", value))
            with self.assertRaises(InvalidWish) as caught:
                self.library.wish("turn", value)
            self.assertIs(caught.exception.given, value)

    def test_a_broken_wish(self):
        for name, wish in (("stairs", ("commute",)), ("swing", ("plain",)), ("turn", ("plain",)), ("turn", ("words", 1))):
            self.assert_raises_with(("Broken", "index", 5), self.library.wish, ("name", name), ("wish", wish))

    def test_no_index(self):
        for value in odd_values() + [5, 6, -1, -5, 10 ** 40, -10 ** 40, "0", "", (), (0,), [0], Sly(), TURN_LOT, ("stairs", ("plain",))]:
            if value.__class__ is int and 0 <= value < 5:
                continue
            self.assert_raises_with(("InvalidIndex", "given", value), self.library.lift, ("index", value))
            with self.assertRaises(InvalidIndex):
                self.library.lift(value)

    def test_nothing_to_undo(self):
        library = Library()
        for value in (0, True, -1):
            self.assertEqual(raised(library.lift, value), ("InvalidIndex", {"given": value}))
        self.assertEqual(raised(library.undo), ("NothingToUndo", {}))
        self.assertEqual(told(library), ((), {}, (), 0, 0, True))


if __name__ == "__main__":
    unittest.main()
