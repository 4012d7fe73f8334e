"""Promise [2]: what is handed in stays as it is, truths are truths, arguments have their names."""

import copy
import inspect
import unittest

from stretchkeep.cheapest import cheapest, shows
from stretchkeep.chosen import Chosen
from stretchkeep.desk import Desk
from stretchkeep.errors import ListError, NoText
from stretchkeep.fewest import fewest, is_need, serves_need
from stretchkeep.kept import Kept
from stretchkeep.prices import cut, price, price_by, price_of, room
from stretchkeep.questions import answer, is_question
from stretchkeep.stairs import by_and_by, stairs
from stretchkeep.stretches import read, serves, stretch, used
from stretchkeep.tables import is_list, is_table, sorted_by
from stretchkeep.texts import question_text, read_question
from tests.things import anything

TABLE = ("abc", ((3, 1, 2), (1, 2, 2), (3, 0, 2), (1, 2, 2), (1, 1, 9)))
QUESTION = ((("a", 1),), ("b", 2, 9))
WORK = (TABLE, ((QUESTION, 3), (((("c", 9),), None), 1)), 1)
OTHERS = {"table": ("abc", ((0, 0, 0),)), "work": (("abc", ((0, 0, 0),)), ((((), None), 2),), 5)}

# Each function with its arguments by their names in the interface, and what it tells.
CALLS = (
    (is_table, {"thing": TABLE}, True),
    (is_list, {"columns": "abc", "thing": "cab"}, True),
    (sorted_by, {"table": TABLE, "one": "ab"}, [4, 1, 3, 2, 0]),
    (is_question, {"columns": "abc", "thing": QUESTION}, True),
    (answer, {"table": TABLE, "question": QUESTION}, [1, 3]),
    (used, {"one": "abc", "question": QUESTION}, "ab"),
    (stretch, {"table": TABLE, "one": "ab", "question": QUESTION}, (1, 3)),
    (read, {"table": TABLE, "one": "ab", "question": QUESTION}, ([1, 3], 2)),
    (serves, {"one": "ab", "question": QUESTION}, True),
    (price_by, {"table": TABLE, "one": "ab", "question": QUESTION}, 3),
    (price_by, {"table": TABLE, "one": None, "question": QUESTION}, 5),
    (price_of, {"table": TABLE, "choice": ("a", "b"), "question": QUESTION}, 3),
    (price, {"work": WORK, "choice": ("a", "ab")}, 19),
    (room, {"choice": ("a", "ab")}, 3),
    (cut, {"work": WORK, "choice": ("abc", "ba", "cb")}, ("ab", "b", "c")),
    (cheapest, {"work": WORK, "room": 0}, (20, (), ("dear",))),
    (shows, {"work": WORK, "room": 0, "number": 20, "thing": ("dear",)}, True),
    (shows, {"work": WORK, "room": 0, "number": 20, "thing": ["dear"]}, False),
    (stairs, {"work": WORK, "room": 6}, [(0, 20), (1, 16), (2, 15)]),
    (by_and_by, {"work": WORK, "many": 4}, (("b", "c"), 9)),
    (is_need, {"columns": "abc", "thing": ("ac", "b")}, True),
    (serves_need, {"one": "cab", "need": ("ac", "b")}, True),
    (fewest, {"columns": "abc", "needs": [("ac", "b"), ("c", ""), ("", "c")]}, (["cab"], (0,))),
    (question_text, {"question": QUESTION}, "a=1 b:2..9"),
    (read_question, {"columns": "abc", "text": "a=1 b:2..9"}, QUESTION),
)

# Each class with its arguments by their names, then its methods, one behind the other, with theirs and what they tell.
OBJECTS = (
    (Kept, {"table": TABLE, "choice": ("ab", "c")}, (
        ("put", {"row": (1, 2, 0)}, 5),
        ("take", {"number": 1}, None),
        ("sorted_by", {"one": "ab"}, [4, 3, 5, 2, 0]),
        ("next_number", {}, 6),
        ("ask", {"question": QUESTION}, ([3, 5], "ab", 2)),
        ("moved", {}, 4),
    )),
    (Chosen, {"table": TABLE, "changes": 1, "room": 2}, (
        ("ask", {"question": QUESTION, "often": 3}, None),
        ("asks", {}, ((QUESTION, 3),)),
        ("choice", {}, ("b",)),
        ("price", {}, 11),
        ("made", {}, 1),
        ("leave", {"question": QUESTION}, None),
        ("choice", {}, ()),
    )),
    (Desk, {}, (
        ("say", {"row": "table ab"}, "ok"),
        ("say", {"row": "row 4 2"}, "0"),
    )),
    (NoText, {"number": 7}, ()),
)


class HandedIn(unittest.TestCase):
    def test_arguments_by_name_and_by_place(self):
        for function, named, told in CALLS:
            with self.subTest(function=function.__name__):
                self.assertEqual(list(inspect.signature(function).parameters), list(named))
                self.assertEqual(function(**named), told)
                self.assertEqual(function(*named.values()), told)

    def test_calls_change_nothing(self):
        for function, named, told in CALLS:
            with self.subTest(function=function.__name__):
                before = copy.deepcopy(named)
                function(**named)
                self.assertEqual(named, before)
                self.assertEqual(function(**named), told)

    def test_objects_by_name_and_by_place(self):
        for kind, named, calls in OBJECTS:
            self.assertEqual(list(inspect.signature(kind).parameters), list(named))
            one, other = kind(**named), kind(*named.values())
            for method, arguments, told in calls:
                with self.subTest(kind=kind.__name__, method=method):
                    self.assertEqual(list(inspect.signature(getattr(one, method)).parameters), list(arguments))
                    self.assertEqual(getattr(one, method)(**arguments), told)
                    self.assertEqual(getattr(other, method)(*arguments.values()), told)
        self.assertEqual(NoText(number=7).number, 7)

    def test_objects_change_nothing_that_is_handed_in(self):
        for kind, named, calls in OBJECTS:
            before = copy.deepcopy((named, calls))
            thing = kind(**named)
            for method, arguments, told in calls:
                getattr(thing, method)(**arguments)
            self.assertEqual((named, calls), before)

    def test_refused_calls_change_nothing_that_is_handed_in(self):
        question = ((("c", 5),), None)
        chosen = Chosen(TABLE, 1, 2)
        with self.assertRaises(ListError):
            chosen.leave(question)
        with self.assertRaises(ListError):
            Kept(("a", ((1,),) * 60), ("a",)).put((1,))
        self.assertEqual(question, ((("c", 5),), None))
        self.assertEqual(chosen.asks(), ())

    def test_lists_handed_in_are_unchanged(self):
        things = anything() + [["abc", [[1, 2, 3]]], ["c", "a", "b"], ([["a", 1]], ["b", 1, 2]), ("a", [[1], [0]])]
        before = copy.deepcopy(things)
        for thing in things:
            self.assertIs(is_table(thing), False)
            self.assertIs(is_list("bc", thing), False)
            self.assertIs(is_question("abc", thing), False)
            self.assertIs(is_need("xyz", thing), False)
            self.assertIs(shows(WORK, 2, 0, thing), False)
            self.assertIs(shows(WORK, 2, 0, ("list", "a", ("dear",), thing)), False)
        self.assertEqual(things, before)

    def test_nothing_is_kept_of_what_is_handed_in(self):
        thing = ["abc", ()]
        self.assertIs(is_table(thing), False)
        self.assertIs(is_table(tuple(thing)), True)
        thing.append(())
        self.assertIs(is_table(tuple(thing)), False)
        needs = [("ac", "b"), ("c", "")]
        told = fewest("abc", needs)
        needs.append(("b", ""))
        self.assertEqual(needs, [("ac", "b"), ("c", ""), ("b", "")])
        self.assertEqual(told, (["cab"], told[1]))
        self.assertEqual(len(fewest("abc", needs)[0]), 2)

    def test_a_call_hangs_on_no_other_call(self):
        for function, named, told in CALLS:
            function(**{name: OTHERS.get(name, worth) for name, worth in named.items()})
            self.assertEqual(function(**named), told)

    def test_told_lists_are_new_ones(self):
        for function, named, told in CALLS:
            first = function(**named)
            lists = [part for part in (first if isinstance(first, tuple) else (first,)) if isinstance(part, list)]
            for part in lists:
                part.append("mine")
            self.assertEqual(function(**named), told)

    def test_truths_are_true_or_false_themselves(self):
        for thing in anything() + [TABLE, QUESTION, "cab", "b"]:
            self.assertIs(type(is_table(thing)), bool)
            self.assertIs(type(is_list("abc", thing)), bool)
            self.assertIs(type(is_question("abc", thing)), bool)
            self.assertIs(type(is_need("abc", thing)), bool)
            self.assertIs(type(shows(WORK, 2, 0, thing)), bool)
        for one in ("a", "ab", "ba", "c"):
            for question in (QUESTION, ((), None), ((("c", 1),), None), ((), ("b", 1, 2))):
                self.assertIs(type(serves(one, question)), bool)
            for need in (("a", ""), ("", "a"), ("ab", "c"), ("b", "a"), ("c", "")):
                self.assertIs(type(serves_need(one, need)), bool)
        for number in (-1, 0, 10, 11, 10 ** 59):
            dear, over = ("dear",), ("over",)
            for tree in (dear, over, ("list", "a", dear, dear), ("list", "abc", over, dear)):
                self.assertIs(type(shows(WORK, 2, number, tree)), bool)


if __name__ == "__main__":
    unittest.main()
