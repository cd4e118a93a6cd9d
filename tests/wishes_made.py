"""Wishes, what they ask reckoned by the tests themselves, and values that are no wishes."""

from lots_made import all_lots
from reckoning import made, searched_words
from samples import STAIRS, Sly, odd_values
from searching import bar_by_search

PLAIN = (("roots",), ("plain",), ("commute",), ("all",))


def keeps(tables, wish):
    """Whether the lot of these tables keeps a wish, by the tests' own sums and searches."""
    if wish[0] == "words":
        return len(searched_words(tables)) <= wish[1]
    if wish[0] == "all":
        return len(searched_words(tables)) == len(tables[0]) ** 2
    if wish[0] == "commute":
        return all(made(one, other) == made(other, one) for one in tables for other in tables)
    bar = bar_by_search(tables)
    return bar is None or (wish[0] == "roots" and bar[0] == "own")


def word_wishes(tables):
    """Wishes for words below, at and above their number."""
    many = len(searched_words(tables))
    return [("words", number) for number in (0, 1, many - 1, many, many + 1, 16, 17, 10 ** 40, 10 ** 99) if number >= 0]


def no_wishes():
    """Values that are no wishes."""
    found = odd_values() + [
        "", "roots", "plain", (), ("",), ("root",), ("Plain",), ("plain ",), (" plain",), ("none",), ("word", 3),
        ("words",), ("words", -1), ("words", -10 ** 40), ("words", True), ("words", False), ("words", None), ("words", "3"),
        ("words", (3,)), ("words", [3]), ("words", 3, 3), ("words", 3, None), ("words", Sly()), (3, "words"), ("words", "plain"),
        (None,), (True,), (0,), (b"plain",), (("plain",),), (["plain"],), (Sly(),), (Sly(), 3), (Sly(), Sly()),
        ["plain"], ["words", 3], [("plain",)], {"plain": 3}, {"plain"}, (("words", 3),), STAIRS,
    ]
    for wish in PLAIN:
        found += [list(wish), wish + (0,), wish + (None,), wish + wish, wish + ("",), wish + ((),), (wish,), wish[0]]
    return found


def some_lots():
    return all_lots()[::3]
