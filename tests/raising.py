"""What calls raise."""


def raised(action, *told, **named):
    """The name of the class of the error that a call raises, and its attributes; None if it raises none."""
    try:
        action(*told, **named)
    except Exception as error:
        return error.__class__.__name__, vars(error)
    return None


def raises(action, arguments):
    """What a function raises for these arguments, pairs of a name and a value: by position,
    by name, and by name in the other order, which must all be the same."""
    names = dict(arguments)
    ways = [raised(action, *names.values()), raised(action, **names), raised(action, **dict(arguments[::-1]))]
    for way in ways:
        if not is_same(way, ways[0]):
            raise AssertionError(f"not the same by position and by name: {ways}")
    return ways[0]


def is_same(one, other):
    """Whether two errors are told alike, and have the very same attributes."""
    if one is None or other is None:
        return one is other
    same = one[0] == other[0] and list(one[1]) == list(other[1])
    return same and all(is_one(value, other[1][name]) for name, value in one[1].items())


def is_one(value, other):
    """Whether two values are one: the same object, or plain ones that are equal and of one class."""
    if value is other:
        return True
    return value.__class__ is other.__class__ and isinstance(value, (int, tuple)) and value == other


class Raising:
    """For test cases: what a function raises, by position and by name."""

    def assert_raises_with(self, wanted, action, *arguments):
        """The function raises the wanted error: its name, and the one attribute with its value."""
        name, attribute, value = wanted
        found = raises(action, list(arguments))
        self.assertIsNotNone(found, (wanted, arguments))
        self.assertEqual((found[0], list(found[1])), (name, [attribute]), arguments)
        self.assertTrue(is_one(found[1][attribute], value), (found, wanted))
