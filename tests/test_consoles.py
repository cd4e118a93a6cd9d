import re
import unittest
from random import Random

from alltriangular.consoles import Console
from alltriangular.lots import Lot
from lots_made import all_lots, commuting_lots, turned_lots
from pairs_made import all_pairs
from reckoning import searched_spaces, searched_words, word_trace
from samples import MOST, STAIRS, SWING, TURN, Sly, odd_values, written
from searching import alike_by_trying, bar_by_search

NAMES = ("a", "z", "s", "lot", "undo", "a1", "x0y9", "abcdefgh", "a1234567", "zzzzzzzz")
NO_NAMES = ("A", "aB", "abcdefghi", "a12345678", "1", "1a", "0", "_", "_a", "a_b", "a-b", "-", "/", "a/", "a.", "~", "a~", "!",
            "\n", "a\n", "\na", "a\nb", "(a)", "#", "@")
NO_LINES = ("", " ", "  ", "undo ", " undo", "Undo", "UNDO", "undo s", "un do", "undo\n", "\nundo", "lot", "lot ", "lot s", "lot s ",
            "lot  ", "lot   ", " lot s lot 1 / table / 5", "lot  s lot 1 / table / 5", "LOT s lot 1 / table / 5", "lots s x",
            "put s x", "drop", "drop ", "drop  s", " drop s", "drop s ", "drop s s", "Drop s", "drops s", "bar", "bar ", "bar  s",
            "bar s ", " bar s", "bar s s", "bar s 0", "BAR s", "bars s", "words", "words ", "words s ", "words s s", "words  s",
            "word s", "Words s", "layers", "layers ", "layers s ", "layers s 1", "layer s", "layers  s", "trace", "trace ",
            "trace s", "trace s ", "trace  s 0", "trace s  0", "trace s 0 ", "trace s 0  1", " trace s 0", "trace s 00",
            "trace s 01", "trace s 0 01", "trace s -0", "trace s -1", "trace s +1", "trace s 1.0", "trace s x", "trace s 0 x",
            "trace s 0x", "trace s 0,1", "trace s (0, 1)", "trace s empty", "trace s ()", "trace s 0\n", "trace s 0\n1",
            "trace s 1_0", "Trace s 0", "trace 0", "alike", "alike ", "alike s", "alike s ", "alike s s ", "alike s  s",
            " alike s s", "alike s s s", "alike  s s", "Alike s s", "names", "help", "quit", "s", "0", "/", " / ", "\n",
            "trace z 0 x", "trace z", "trace z 00", "alike z", "bar z z", "drop z z", "lot z", "trace S 0x")


def line_of(name, tables):
    """The line that puts a lot under a name."""
    return f"lot {name} " + " / ".join(written(tables).split("\n"))


def bar_told(tables):
    bar = bar_by_search(tables)
    if bar is None:
        return "free"
    if bar[0] == "own":
        return "own " + str(bar[1])
    return f"word {bar[1]} {bar[2]} : " + " ".join(str(at) for at in bar[3])


def layers_told(tables):
    sizes = [len(space) for space in searched_spaces(tables)] + [0]
    return " ".join(str(sizes[at] - sizes[at + 1]) for at in range(len(sizes) - 1))


class Model:
    """A console that reads its lines by patterns and reckons by the tests' own searches."""

    def __init__(self):
        self.lots, self.past = {}, []

    def change(self, lots):
        self.past.append(self.lots)
        self.lots = lots

    def do(self, line):
        if line == "undo":
            if not self.past:
                return "nothing"
            self.lots = self.past.pop()
            return "undone"
        found = re.fullmatch(r"lot ([^ ]+) (.+)", line, re.DOTALL)
        if found:
            return self.put(*found.groups())
        found = re.fullmatch(r"(drop|bar|words|layers) ([^ ]+)()|(?:(alike) ([^ ]+) ([^ ]+))|"
                             r"(?:(trace) ([^ ]+) ((?:0|[1-9][0-9]*)(?: (?:0|[1-9][0-9]*))*))", line)
        if not found:
            return "no such line"
        word, name, more = [part for part in found.groups() if part is not None]
        if name not in self.lots or word == "alike" and more not in self.lots:
            return "no such lot"
        if word == "drop":
            self.change({key: lot for key, lot in self.lots.items() if key != name})
            return "dropped"
        return self.ask(word, self.lots[name], more)

    def put(self, name, lines):
        if not re.fullmatch(r"[a-z][a-z0-9]{0,7}", name):
            return "no name"
        try:
            lot = Lot.read("no lot" if "\n" in lines else lines.replace(" / ", "\n"))
        except ValueError:
            return "no lot"
        self.change({**self.lots, name: lot.tables})
        return "put"

    def ask(self, word, tables, more):
        if word == "trace":
            indexes = tuple(int(part) for part in more.split(" "))
            right = len(indexes) <= 40 and max(indexes) < len(tables)
            return str(word_trace(tables, indexes)) if right else "no word"
        if word == "alike":
            return "yes" if alike_by_trying(tables, self.lots[more]) else "no"
        return {"bar": bar_told, "layers": layers_told, "words": lambda one: str(len(searched_words(one)))}[word](tables)


class Consoles(unittest.TestCase):
    def setUp(self):
        self.console = Console()

    def told(self, *lines):
        """The answers to lines, by position; each is a string."""
        found = [self.console.do(line) for line in lines]
        self.assertEqual({answer.__class__ for answer in found} | {str}, {str})
        return found

    def have(self, **lots):
        """Puts lots under names."""
        self.assertEqual(self.told(*[line_of(name, tables) for name, tables in lots.items()]), ["put"] * len(lots))


class PutTest(Consoles):
    def test_names(self):
        for name in NAMES:
            self.assertEqual(self.told(line_of(name, TURN), f"words {name}"), ["put", "2"])
        self.assertEqual(self.console.names, tuple(sorted(NAMES)))

    def test_no_names(self):
        self.have(s=STAIRS)
        for name in NO_NAMES:
            self.assertEqual(self.told(line_of(name, TURN), f"lot {name} x", f"lot {name}  ", f"lot {name} lot 1 / table"),
                             ["no name"] * 4, name)
            self.assertEqual(self.told(f"drop {name}", f"bar {name}", f"words {name}", f"layers {name}", f"trace {name} 0",
                                       f"trace {name} 9 9", f"alike {name} s", f"alike s {name}", f"alike {name} {name}"),
                             ["no such lot"] * 9, name)
        self.assertEqual(self.console.names, ("s",))
        self.assertEqual(self.told("undo", "undo"), ["undone", "nothing"])

    def test_the_empty_name(self):
        """It is no NAME, which has one sign or more: so these are no such lines."""
        for line in (line_of("", TURN), "lot  x", "drop ", "bar ", "words ", "layers ", "trace  0", "alike  s", "alike s "):
            self.assertEqual(self.told(line), ["no such line"], line)

    def test_lots(self):
        for lot in all_lots():
            self.assertEqual(self.told(line_of("a", lot.tables), "words a", "alike a a"),
                             ["put", str(len(searched_words(lot.tables))), "yes"])

    def test_no_lots(self):
        right = line_of("s", STAIRS)
        for lines in ("x", " ", "  ", "/", " / ", " /", "/ ", "lot 2", "lot 2 ", "lot 2 / ", " / lot 2", "lot 2 / table",
                      "table / 5", "lot 1 / 5", "lot 1 / table / 5 / ", "lot 1 / table / 5 /", " lot 1 / table / 5",
                      "lot 1 / table / 5 ", "lot 1  / table / 5", "lot 1 /  table / 5", "lot 1 / table /  5", "lot 1 / table / 5  ",
                      "lot 1/table/5", "lot 1 /table / 5", "lot 1/ table / 5", "lot 1 / table / 5 / / table / 5",
                      "lot 1 / / table / 5", "lot 1 / table / / 5", "lot 1 /  / table / 5", "lot 1 // table / 5", "lot 1 table 5",
                      "lot 1 / table / 05", "lot 1 / table / +5", "lot 1 / table / -0", "lot 1 / table / 1000001",
                      "lot 1 / table / 5 6", "lot 1 / table / 5 / 6", "lot 1 / table / 5 / table", "lot 1 \\ table \\ 5",
                      "Lot 1 / table / 5", "LOT 1 / TABLE / 5", "lot 5 / table / 5", "lot 0 / table", "lot 01 / table / 5",
                      "lot 1 / table / x", "lot 1 / table / 5 / table / 5 / table / 5 / table / 5", "lot s lot 1 / table / 5"):
            self.assertEqual(self.told(f"lot s {lines}"), ["no lot"], lines)
        self.assertEqual(self.console.names, ())
        self.assertEqual(self.told(right + " ", right + " / ", right + " /", "undo"), ["no lot"] * 3 + ["nothing"])

    def test_newlines_are_no_ends_of_lines(self):
        text = written(STAIRS)
        for lines in (text, text + "\n", "\n" + text, text.replace("\n", " / ", 1), text.replace("\n", " / ") + "\n",
                      "\n" + text.replace("\n", " / "), text.replace("\n", " /\n"), text.replace("\n", "\n / "), "\n", "lot 2\n",
                      "lot 1 / table\n5", "lot 1\ntable / 5", "lot 1 / table / 5\n"):
            self.assertEqual(self.told(f"lot s {lines}"), ["no lot"], lines)
        self.assertEqual(self.console.names, ())

    def test_no_name_comes_first(self):
        self.assertEqual(self.told("lot S x", "lot S lot 1 / table / 5", "lot s x", "lot 1 \n", "lot \n \n"),
                         ["no name", "no name", "no lot", "no name", "no name"])

    def test_in_the_place_of_another(self):
        self.have(s=STAIRS)
        self.assertEqual(self.told(line_of("s", SWING), "words s", "undo", "words s", "lot s x", "words s"),
                         ["put", "4", "undone", "3", "no lot", "3"])
        self.assertEqual(self.console.names, ("s",))

    def test_what_was_refused_is_not_taken_back(self):
        self.have(s=STAIRS, t=TURN)
        self.told("lot s x", "lot S x", "lot u", "drop z", "bar z", "trace s 9", "x", "", "drop")
        self.assertEqual((self.told("undo"), self.console.names), (["undone"], ("s",)))


class AskTest(Consoles):
    def test_all_lots(self):
        for lot in all_lots():
            self.have(a=lot.tables)
            self.assertEqual(self.told("bar a", "words a", "layers a"),
                             [bar_told(lot.tables), str(len(searched_words(lot.tables))), layers_told(lot.tables)])
            last = len(lot) - 1
            self.assertEqual(self.told("trace a 0", f"trace a {last} 0 {last}", f"trace a 0 {last + 1}"),
                             [str(word_trace(lot.tables, (0,))), str(word_trace(lot.tables, (last, 0, last))), "no word"])

    def test_bars(self):
        self.have(s=STAIRS, w=SWING, t=TURN, u=(SWING[0], SWING[0], SWING[1]), v=(((1, 0), (0, 1)),) + TURN,
                  x=SWING + STAIRS[1:])
        self.assertEqual(self.told("bar s", "bar w", "bar t", "bar u", "bar v", "bar x"),
                         ["free", "word 0 1 : 0 1", "own 0", "word 0 2 : 0 2", "own 1", "word 0 1 : 2"])

    def test_layers(self):
        self.have(s=STAIRS, t=TURN, u=(((0, 1, 0), (0, 0, 1), (0, 0, 0)),), v=(((0, 0, 1), (0, 0, 0), (0, 0, 0)),), w=(((5,),),))
        self.assertEqual(self.told("layers s", "layers t", "layers u", "layers v", "layers w"), ["1 1", "2", "1 1 1", "2 1", "1"])

    def test_alike(self):
        for lot, other in all_pairs()[::5]:
            self.have(a=lot.tables, b=other.tables)
            wanted = "yes" if alike_by_trying(lot.tables, other.tables) else "no"
            self.assertEqual(self.told("alike a b", "alike b a", "alike a a", "alike b b"), [wanted, wanted, "yes", "yes"])

    def test_traces(self):
        self.have(s=STAIRS, m=(((MOST,) * 4,) * 4,), n=(((-1,),),))
        self.assertEqual(self.told("trace s 0", "trace s 1 1", "trace s 0 1 0", "trace n 0", "trace n 0 0", "trace m 0 0"),
                         ["2", "13", "5", "-1", "1", str(16 * MOST ** 2)])
        self.assertEqual(self.told("trace m " + " ".join("0" * 40)), [str(4 ** 40 * MOST ** 40)])

    def test_no_word(self):
        self.have(s=STAIRS, t=TURN)
        for indexes in ("2", "3", "10", "0 2", "2 0", "0 1 0 1 2", "9", "99999999", str(10 ** 40), "0 " + "1" * 3000, "1 10"):
            self.assertEqual(self.told(f"trace s {indexes}"), ["no word"], indexes)
        self.assertEqual(self.told("trace t 1", "trace t 0 0", "trace t 0 1"), ["no word", "-2", "no word"])

    def test_forty_indexes(self):
        self.have(t=TURN, s=STAIRS)
        self.assertEqual(self.told("trace t " + " ".join("0" * 40), "trace t " + " ".join("0" * 39)), ["2", "0"])
        self.assertEqual(self.told("trace t " + " ".join("0" * 41), "trace t " + " ".join("0" * 42)), ["no word"] * 2)
        word = (0, 1) * 20
        self.assertEqual(self.told("trace s " + " ".join(str(at) for at in word)), [str(word_trace(STAIRS, word))])
        self.assertEqual(self.told("trace s " + " ".join("0" * 40) + " 2", "trace s " + " ".join("0" * 39) + " 2"), ["no word"] * 2)

    def test_no_such_lot_comes_first(self):
        self.have(s=STAIRS)
        self.assertEqual(self.told("trace z 9", "trace z " + " ".join("0" * 41), "trace s 9", "alike s z", "alike z s", "alike z z"),
                         ["no such lot", "no such lot", "no word", "no such lot", "no such lot", "no such lot"])

    def test_no_such_line(self):
        for lots in ({}, {"s": STAIRS}):
            self.have(**lots)
            for line in NO_LINES:
                self.assertEqual(self.told(line), ["no such line"], repr(line))
                self.assertEqual(Model().do(line), "no such line", repr(line))
        self.assertEqual(self.told("undo", "undo"), ["undone", "nothing"])

    def test_names_like_words(self):
        self.have(undo=TURN, lot=STAIRS, drop=SWING)
        self.assertEqual(self.told("bar undo", "bar lot", "drop drop", "words drop", "alike lot undo", "trace lot 1", "undo", "words drop"),
                         ["own 0", "free", "dropped", "no such lot", "no", "5", "undone", "4"])

    def test_asking_changes_nothing(self):
        self.have(s=STAIRS, t=TURN)
        lines = ["bar s", "words s", "layers s", "trace s 0 1", "trace s 0 2", "alike s t", "bar z", "x", "lot s x", "lot S x"]
        first = self.told(*lines)
        self.assertEqual(self.told(*lines[::-1]), first[::-1])
        self.assertEqual(self.console.names, ("s", "t"))
        self.assertEqual(self.told("undo", "undo", "undo"), ["undone", "undone", "nothing"])


class UndoTest(Consoles):
    def test_step_by_step(self):
        lines = [line_of("s", STAIRS), line_of("t", TURN), line_of("s", SWING), "drop t", line_of("t", STAIRS), "drop s",
                 line_of("t", STAIRS), "drop t"]
        stands = []
        for line in lines:
            stands.append((self.console.names, self.told("words s", "words t", "bar s", "bar t")))
            self.assertIn(self.told(line), (["put"], ["dropped"]))
        self.assertEqual(self.console.names, ())
        for stand in stands[::-1]:
            self.assertEqual(self.told("undo"), ["undone"])
            self.assertEqual((self.console.names, self.told("words s", "words t", "bar s", "bar t")), stand)
        self.assertEqual(self.told("undo", "undo"), ["nothing", "nothing"])
        self.assertEqual(self.console.names, ())

    def test_nothing_at_first(self):
        self.assertEqual(self.told("undo", "undo", line_of("a", TURN), "undo", "undo"), ["nothing", "nothing", "put", "undone", "nothing"])

    def test_the_same_lot_again_is_a_putting(self):
        self.have(a=TURN)
        self.have(a=TURN)
        self.assertEqual(self.told("undo", "bar a", "undo", "bar a", "undo"), ["undone", "own 0", "undone", "no such lot", "nothing"])

    def test_what_was_taken_back_is_not_taken_back_again(self):
        self.have(a=TURN, b=STAIRS)
        self.assertEqual(self.told("undo", line_of("c", SWING), "undo", "bar a", "bar b", "bar c", "undo", "undo"),
                         ["undone", "put", "undone", "own 0", "no such lot", "no such lot", "undone", "nothing"])

    def test_against_the_model(self):
        source = Random(121)
        lots = [lot.tables for lot in all_lots()[::9] + commuting_lots()[::4] + turned_lots()[::6]]
        names = ("a", "b", "ab", "A", "a b", "")
        for _ in range(12):
            console, model = Console(), Model()
            for _ in range(120):
                name, other = source.choice(names[:3] if source.random() < 0.8 else names), source.choice(names[:3])
                line = source.choice([
                    line_of(name, source.choice(lots)), line_of(name, source.choice(lots)), f"drop {name}", "undo", f"bar {name}",
                    f"words {name}", f"layers {name}", f"alike {name} {other}", source.choice(NO_LINES),
                    f"trace {name} " + " ".join(source.choice("001123") for _ in range(source.choice((1, 2, 5, 40, 41))))])
                self.assertEqual(console.do(line), model.do(line), repr(line))
                self.assertEqual(console.names, tuple(sorted(model.lots)))


class ConsoleTest(Consoles):
    def test_names(self):
        self.assertEqual(self.console.names, ())
        self.have(b=TURN, a=STAIRS, ab=SWING, z=TURN, a1=TURN, a10=TURN, a2=TURN)
        self.assertEqual(self.console.names, ("a", "a1", "a10", "a2", "ab", "b", "z"))
        self.assertEqual([self.console.names.__class__] + [name.__class__ for name in self.console.names], [tuple] + [str] * 7)
        self.told("drop ab", "drop a")
        self.assertEqual(self.console.names, ("a1", "a10", "a2", "b", "z"))
        with self.assertRaises(AttributeError):
            self.console.names = ()

    def test_by_name(self):
        self.assertEqual([self.console.do(line=line_of("a", TURN)), self.console.do(line="bar a"), self.console.do(line="x")],
                         ["put", "own 0", "no such line"])

    def test_two_beside_one_another(self):
        other = Console()
        self.have(a=TURN)
        other.do(line_of("b", SWING))
        self.assertEqual((self.console.names, other.names), (("a",), ("b",)))
        self.assertEqual((self.told("undo", "undo"), other.do("words b"), other.do("words a")),
                         (["undone", "nothing"], "4", "no such lot"))
        self.assertEqual((self.console.names, other.names), ((), ("b",)))

    def test_never_equal(self):
        other = Console()
        for lines in ((), (line_of("a", TURN),)):
            for line in lines:
                self.told(line)
                other.do(line)
            self.assertIs(self.console == other, False)
            self.assertIs(self.console != other, True)
        for value in odd_values() + ["", (), "a", ("a",), Sly(), Lot(TURN), Console]:
            self.assertIs(self.console == value, False)
            self.assertIs(self.console != value, True)
        self.assertIs(self.console == self.console, True)

    def test_always_true(self):
        self.assertIs(bool(self.console), True)
        self.have(a=TURN)
        self.assertIs(bool(self.console), True)


if __name__ == "__main__":
    unittest.main()
