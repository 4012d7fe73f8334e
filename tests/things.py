"""Things that several tests need: some of any kind, and all lists of columns."""

import itertools


def lists_of(columns):
    """All lists of these columns."""
    found = []
    for many in range(1, len(columns) + 1):
        found.extend("".join(letters) for letters in itertools.permutations(columns, many))
    return found


def nested(kind, depth, inner):
    """The inner thing, so many times alone in a tuple or a list."""
    thing = inner
    for _ in range(depth):
        thing = kind([thing])
    return thing


def anything():
    """Things that are no table, no list of columns and no question, a new row of them each time."""
    return [
        0, 1, -1, 7, 999, 1000, 10 ** 59, 10 ** 60 - 1, 1 - 10 ** 60, True, False, None,
        "", " ", "A", "1", "a ", " a", "a b", "\n", "\t", "~", "None", "()", "ab\n", "a" * 1000,
        (), [], ((),), [[]], ((), ()), [[], []], ((), (), ()), (None,), (None, None), [None, None],
        (0,), (0, 0), (0, 0, 0), (True, False), ("", ""), ("", ()), ("", None), ("a",), ["a"], ("a", "a"),
        ["a", "b"], ("a", "b"), ("a", 1), ("a", 1, 2), ("a", None), (("a", 1),), (("a", 1), None),
        (("a", 1), ("b", 2)), [("a", 1)], [[("a", 1)], None], ["a", []], ["a", ()], ["a", [[1]]],
        nested(tuple, 100, 1), nested(list, 100, 1), nested(tuple, 99, ()), nested(list, 99, "a"),
        (nested(tuple, 99, 1), nested(list, 99, 1)), ("a", nested(tuple, 99, 1)), (nested(tuple, 99, 1), None),
        ((), nested(tuple, 99, 1)), ((), nested(list, 99, None)), (1,) * 1000, [None] * 1000,
    ]
