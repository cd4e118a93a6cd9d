"""Consoles: lots under names, asked by lines."""

from alltriangular.alike import alike
from alltriangular.kinds import is_name, is_word, number_in, row_text
from alltriangular.lots import lot_in
from alltriangular.views import barred, layers
from alltriangular.words import trace, words

# How many parts, with a space between each two of them, the lines with these words in front have.
PARTS = {"undo": 1, "drop": 2, "bar": 2, "words": 2, "layers": 2, "alike": 3}


def is_index_text(part):
    """Whether a part of a line writes an integer from 0 on."""
    return part.isascii() and part.isdigit() and (part == "0" or part[0] != "0")


def is_line(parts):
    """Whether these parts, with a space between each two of them, are a line other than that of a putting."""
    if "" in parts:
        return False
    if parts[0] == "trace":
        return len(parts) > 2 and all([is_index_text(part) for part in parts[2:]])
    return len(parts) == PARTS.get(parts[0], 0)


def lot_in_line(lines):
    """The lot with these lines of its text, with a stroke between each two of them; None if they make none."""
    # A newline is no end of a line here, and no line of a lot holds one.
    if "\n" in lines:
        return None
    return lot_in("\n".join(lines.split(" / ")))


def bar_answer(lot):
    """What bars the lot."""
    bar = barred(lot)
    if bar is None:
        return "free"
    if bar[0] == "own":
        return f"own {bar[1]}"
    word = row_text(bar[3]) if bar[3] else "empty"
    return f"word {bar[1]} {bar[2]} : {word}"


def trace_answer(lot, parts):
    """The trace of the word with these indexes."""
    word = tuple([number_in(part) for part in parts])
    if not is_word(word, len(lot)):
        return "no word"
    return str(trace(lot, word))


def answer(word, lots, parts):
    """The answer to a question, told by its word, about lots; behind their names the line has these parts."""
    if word == "bar":
        return bar_answer(lots[0])
    if word == "words":
        return str(len(words(lots[0])))
    if word == "layers":
        return row_text(layers(lots[0]))
    if word == "trace":
        return trace_answer(lots[0], parts)
    return "no" if alike(lots[0], lots[1]) is None else "yes"


class Console:
    """Lots under names, at first none; lines put them, drop them and ask them."""

    def __init__(self):
        self._lots = {}
        self._past = []

    @property
    def names(self):
        """The names, ascending."""
        return tuple(sorted(self._lots))

    def do(self, line):
        """The answer to a line."""
        word, _, rest = line.partition(" ")
        if word == "lot":
            return self._put(rest)
        parts = line.split(" ")
        if not is_line(parts):
            return "no such line"
        if word == "undo":
            return self._undone()
        names = parts[1:3] if word == "alike" else parts[1:2]
        if not all([name in self._lots for name in names]):
            return "no such lot"
        if word == "drop":
            return self._dropped(parts[1])
        return answer(word, [self._lots[name] for name in names], parts[2:])

    def _put(self, rest):
        """Puts a lot under a name, as what stands behind the word tells."""
        name, _, lines = rest.partition(" ")
        if name == "" or lines == "":
            return "no such line"
        if not is_name(name):
            return "no name"
        lot = lot_in_line(lines)
        if lot is None:
            return "no lot"
        lots = dict(self._lots)
        lots[name] = lot
        self._change(lots)
        return "put"

    def _dropped(self, name):
        """Takes the lot with this name away."""
        lots = dict(self._lots)
        del lots[name]
        self._change(lots)
        return "dropped"

    def _change(self, lots):
        """Has these lots from now on, and those of before to go back to."""
        self._past.append(self._lots)
        self._lots = lots

    def _undone(self):
        """Takes back the last putting or dropping that was not taken back."""
        if not self._past:
            return "nothing"
        self._lots = self._past.pop()
        return "undone"

    def __eq__(self, other):
        return self is other
