"""Promise [6]: questions and their answers."""

import itertools
import unittest

from stretchkeep.questions import answer, is_question
from tests.things import anything, nested

TABLE = ("abc", ((3, 1, 2), (1, 2, 2), (3, 0, 2), (1, 2, 2), (1, 1, 9)))
WRONG_LETTERS = ["d", "", "ab", "bc", "A", "B", " ", "z", "`", 0, 1, True, None, ("a",), ["a"], (), [], ("a", "b")]
WRONG_NUMBERS = [-1, 1000, 10 ** 59, -(10 ** 59), True, False, "1", "", None, (), (1,), [1], nested(tuple, 90, 1)]


class IsQuestion(unittest.TestCase):
    def none_is(self, things, columns="abc"):
        for thing in things:
            with self.subTest(thing=thing):
                self.assertIs(is_question(columns, thing), False)

    def all_are(self, things, columns="abc"):
        for thing in things:
            with self.subTest(thing=thing):
                self.assertIs(is_question(columns, thing), True)

    def test_without_letters(self):
        for columns in ("a", "bz", "abcdef"):
            self.all_are([((), None)], columns)

    def test_any_letters_with_and_without_a_reach(self):
        for columns in ("a", "bz", "abc", "acefmz"):
            for many in range(len(columns) + 1):
                for letters in itertools.combinations(columns, many):
                    equals = tuple((letter, 5) for letter in letters)
                    self.all_are([(equals, None)], columns)
                    for letter in columns:
                        self.assertIs(is_question(columns, (equals, (letter, 2, 4))), letter not in letters)

    def test_edges_of_numbers(self):
        self.all_are([((("a", 0), ("b", 999)), None), ((), ("c", 0, 999)), ((("b", 0),), ("a", 0, 0))])
        self.all_are([((), ("a", 999, 999)), ((("c", 999),), ("b", 7, 7)), ((), ("b", 7, 8))])

    def test_low_above_high(self):
        self.none_is([((), ("a", 8, 7)), ((), ("a", 999, 0)), ((("b", 1),), ("a", 1, 0))])

    def test_letters_not_of_the_columns(self):
        for letter in WRONG_LETTERS:
            self.none_is([(((letter, 1),), None), ((), (letter, 1, 2)), ((("a", 1), (letter, 1)), None)])
            self.none_is([(((letter, 1), ("c", 1)), None), ((("a", 1),), (letter, 1, 2))])
        self.none_is([((("b", 1),), None), ((), ("b", 1, 2))], "ac")

    def test_letters_twice_or_out_of_order(self):
        self.none_is([((("a", 1), ("a", 1)), None), ((("a", 1), ("a", 2)), None), ((("b", 1), ("a", 1)), None)])
        self.none_is([((("a", 1), ("c", 1), ("b", 1)), None), ((("a", 1), ("b", 1), ("b", 1)), None)])
        self.none_is([((("c", 1), ("b", 1), ("a", 1)), None), ((("b", 1), ("a", 1)), ("c", 1, 2))])
        self.none_is([((("a", 1), ("a", 1)), ("c", 1, 2)), ((("a", 1), ("b", 1), ("a", 1)), None)])

    def test_the_letter_of_the_reach_among_equals(self):
        self.none_is([((("a", 1),), ("a", 1, 2)), ((("a", 1), ("c", 1)), ("c", 0, 9))])
        self.none_is([((("a", 1), ("b", 1), ("c", 1)), ("b", 1, 1))])

    def test_numbers_out_of_their_bounds(self):
        for number in WRONG_NUMBERS:
            self.none_is([((("a", number),), None), ((("a", 1), ("b", number)), ("c", 1, 2))])
            self.none_is([((), ("a", number, 999)), ((), ("a", 0, number)), ((("b", 1),), ("a", number, number))])

    def test_parts_more_or_fewer(self):
        self.none_is([((),), ((), None, None), ((("a", 1),),), ((("a", 1),), ("b", 1, 2), None), ()])
        self.none_is([((("a",),), None), ((("a", 1, 1),), None), (((),), None), ((("a", 1), ()), None)])
        self.none_is([((), ("a", 1)), ((), ("a",)), ((), ()), ((), ("a", 1, 2, 3)), ((), ("a", 1, 2, None))])
        self.none_is([(("a", 1), None), (("ab",), None), (("a",), None), ("a", None), ("", None), ("", ("a", 1, 2))])

    def test_lists_for_tuples(self):
        self.none_is([[(), None], ([], None), ([("a", 1)], None), ((["a", 1],), None), ((), ["a", 1, 2])])
        self.none_is([[(("a", 1),), ("b", 1, 2)], ((("a", 1), ["b", 1]), None), ((("a", 1),), ["b", 1, 2])])

    def test_other_things_for_parts(self):
        for thing in (0, 1, True, False, "", "a", "abc", [], nested(list, 90, None), nested(tuple, 90, None), 10 ** 59):
            self.none_is([((), thing), (thing, None), ((thing,), None), ((("a", 1), thing), None)])
        self.none_is([(None, None), ((None,), None), (None, ()), (None, ("a", 1, 2))])

    def test_of_anything(self):
        self.none_is(anything())
        self.none_is(anything(), "a")


class Answer(unittest.TestCase):
    def told(self, question, numbers, table=TABLE):
        with self.subTest(question=question):
            self.assertTrue(is_question(table[0], question))
            self.assertEqual(answer(table, question), numbers)

    def test_equals(self):
        self.told(((("a", 1),), None), [1, 3, 4])
        self.told(((("a", 1), ("b", 2)), None), [1, 3])
        self.told(((("b", 1),), None), [0, 4])
        self.told(((("a", 1), ("b", 1), ("c", 9)), None), [4])

    def test_a_reach(self):
        self.told(((), ("b", 1, 2)), [0, 1, 3, 4])
        self.told(((), ("b", 0, 0)), [2])
        self.told(((("c", 2),), ("a", 2, 9)), [0, 2])
        self.told(((("a", 3),), ("b", 1, 5)), [0])

    def test_bounds_of_a_reach(self):
        table = ("k", tuple((number,) for number in range(10)) + ((999,), (0,)))
        for low in range(10):
            for high in range(low, 10):
                told = [number for number in range(10) if low <= number <= high]
                self.told(((), ("k", low, high)), told + ([11] if low == 0 else []), table)
        self.told(((), ("k", 9, 999)), [9, 10], table)
        self.told(((), ("k", 10, 998)), [], table)
        self.told(((), ("k", 999, 999)), [10], table)

    def test_nothing_asked(self):
        self.told(((), None), [0, 1, 2, 3, 4])
        self.told(((), ("a", 0, 999)), [0, 1, 2, 3, 4])

    def test_nothing_fits(self):
        self.told(((("a", 2),), None), [])
        self.told(((("a", 3), ("b", 2)), None), [])
        self.told(((), ("c", 3, 8)), [])
        self.told(((("a", 3),), ("c", 3, 999)), [])

    def test_without_rows(self):
        for question in (((), None), ((("a", 0),), None), ((), ("a", 0, 999))):
            self.told(question, [], ("ab", ()))

    def test_rows_alike_all_fit(self):
        self.told(((("x", 4),), ("y", 4, 4)), list(range(60)), ("xy", ((4, 4),) * 60))

    def test_columns_by_their_letters(self):
        table = ("bdz", ((1, 2, 3), (2, 3, 1), (3, 1, 2)))
        self.told(((("d", 3),), None), [1], table)
        self.told(((("z", 3),), None), [0], table)
        self.told(((("b", 3), ("z", 2)), ("d", 0, 1)), [2], table)

    def test_the_told_list_is_the_askers_own(self):
        question = ((("a", 1),), None)
        told = answer(TABLE, question)
        self.assertIs(type(told), list)
        self.assertIsNot(told, answer(TABLE, question))
        told.append(9)
        self.assertEqual(answer(TABLE, question), [1, 3, 4])
        nothing = answer(("ab", ()), question)
        nothing.append(9)
        self.assertEqual(answer(("ab", ()), question), [])


if __name__ == "__main__":
    unittest.main()
