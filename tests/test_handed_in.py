"""Promise [2]: what is handed in stays as it is, truths are truths, arguments have their names."""

import copy
import inspect
import unittest

from stretchkeep.questions import answer, is_question
from stretchkeep.stretches import read, serves, stretch, used
from stretchkeep.tables import is_list, is_table, sorted_by
from tests.things import anything

TABLE = ("abc", ((3, 1, 2), (1, 2, 2), (3, 0, 2), (1, 2, 2), (1, 1, 9)))
QUESTION = ((("a", 1),), ("b", 2, 9))

# Each function with its arguments by their names in the interface, and what it tells.
CALLS = (
    (is_table, {"thing": TABLE}, True),
    (is_list, {"columns": "abc", "thing": "cab"}, True),
    (sorted_by, {"table": TABLE, "one": "ab"}, [4, 1, 3, 2, 0]),
    (is_question, {"columns": "abc", "thing": QUESTION}, True),
    (answer, {"table": TABLE, "question": QUESTION}, [1, 3]),
    (used, {"one": "abc", "question": QUESTION}, "ab"),
    (stretch, {"table": TABLE, "one": "ab", "question": QUESTION}, (1, 3)),
    (read, {"table": TABLE, "one": "ab", "question": QUESTION}, ([1, 3], 2)),
    (serves, {"one": "ab", "question": QUESTION}, True),
)


class HandedIn(unittest.TestCase):
    def test_arguments_by_name_and_by_place(self):
        for function, named, told in CALLS:
            with self.subTest(function=function.__name__):
                self.assertEqual(list(inspect.signature(function).parameters), list(named))
                self.assertEqual(function(**named), told)
                self.assertEqual(function(*named.values()), told)

    def test_calls_change_nothing(self):
        for function, named, told in CALLS:
            with self.subTest(function=function.__name__):
                before = copy.deepcopy(named)
                function(**named)
                self.assertEqual(named, before)
                self.assertEqual(function(**named), told)

    def test_lists_handed_in_are_unchanged(self):
        things = anything() + [["abc", [[1, 2, 3]]], ["c", "a", "b"], ([["a", 1]], ["b", 1, 2]), ("a", [[1], [0]])]
        before = copy.deepcopy(things)
        for thing in things:
            self.assertIs(is_table(thing), False)
            self.assertIs(is_list("bc", thing), False)
            self.assertIs(is_question("abc", thing), False)
        self.assertEqual(things, before)

    def test_nothing_is_kept_of_what_is_handed_in(self):
        thing = ["abc", ()]
        self.assertIs(is_table(thing), False)
        self.assertIs(is_table(tuple(thing)), True)
        thing.append(())
        self.assertIs(is_table(tuple(thing)), False)

    def test_a_call_hangs_on_no_other_call(self):
        other = ("abc", ((0, 0, 0),))
        for function, named, told in CALLS:
            function(**{name: other if name == "table" else worth for name, worth in named.items()})
            self.assertEqual(function(**named), told)

    def test_told_lists_are_new_ones(self):
        for function, named, told in CALLS:
            first = function(**named)
            lists = [part for part in (first if isinstance(first, tuple) else (first,)) if isinstance(part, list)]
            for part in lists:
                part.append("mine")
            self.assertEqual(function(**named), told)

    def test_truths_are_true_or_false_themselves(self):
        for thing in anything() + [TABLE, QUESTION, "cab", "b"]:
            self.assertIs(type(is_table(thing)), bool)
            self.assertIs(type(is_list("abc", thing)), bool)
            self.assertIs(type(is_question("abc", thing)), bool)
        for one in ("a", "ab", "ba", "c"):
            for question in (QUESTION, ((), None), ((("c", 1),), None), ((), ("b", 1, 2))):
                self.assertIs(type(serves(one, question)), bool)


if __name__ == "__main__":
    unittest.main()
