"""Promise [7]: used letters, stretches, reading by a list, serving."""

import itertools
import unittest

from stretchkeep.questions import answer
from stretchkeep.stretches import read, serves, stretch, used
from stretchkeep.tables import sorted_by
from tests.things import lists_of
from tests.told import used_as_told

#        sorted by "ab": 4 (1,1) 1 (1,2) 3 (1,2) 2 (3,0) 0 (3,1) 5 (7,4)
TABLE = ("abc", ((3, 1, 2), (1, 2, 2), (3, 0, 2), (1, 2, 2), (1, 1, 9), (7, 4, 0)))
ALL = ((), None)

SMALL_TABLES = (
    ("abc", ()),
    ("abc", ((1, 1, 1),)),
    ("abc", ((1, 0, 2), (1, 0, 2), (1, 2, 0), (3, 1, 1), (0, 1, 3), (1, 1, 1))),
    ("abc", ((2, 2, 2), (2, 2, 0), (0, 2, 2), (2, 0, 2), (0, 0, 0), (2, 0, 0), (0, 2, 0), (0, 0, 2))),
    ("abc", tuple(itertools.product((1, 3), (1, 2), (0, 3)))[::-1]),
)


def questions_of(columns):
    """Questions with numbers from 0 to 3, in each mix of letters that is asked for."""
    found = []
    reaches = [(low, high) for low in range(4) for high in range(low, 4)]
    for picks in itertools.product((None, 0, 1, 2, 3), repeat=len(columns)):
        equals = tuple((letter, pick) for letter, pick in zip(columns, picks) if pick is not None)
        found.append((equals, None))
        for letter, pick in zip(columns, picks):
            if pick is None:
                found.extend((equals, (letter, low, high)) for low, high in reaches)
    return found


def stretch_as_told(table, one, question):
    """What [7] says the stretch is, by the places in the sorted list; and whether they stand together."""
    columns, rows = table
    equals, reach = question
    letters = used_as_told(one, question)
    numbers = dict(equals)

    def has(row, letter):
        number = row[columns.index(letter)]
        return number == numbers[letter] if letter in numbers else reach[1] <= number <= reach[2]

    order = sorted_by(table, one)
    places = [place for place in range(len(rows)) if all(has(rows[order[place]], letter) for letter in letters)]
    if places:
        return (places[0], places[-1] + 1), places == list(range(places[0], places[-1] + 1))
    ahead = 0
    asked = [numbers[letter] for letter in letters if letter in numbers]
    for row in rows:
        there = [row[columns.index(letter)] for letter in letters if letter in numbers]
        below = letters != "" and letters[-1] not in numbers and row[columns.index(letters[-1])] < reach[1]
        ahead += there < asked or (there == asked and below)
    return (ahead, ahead), True


class Used(unittest.TestCase):
    def told(self, one, question, letters):
        with self.subTest(one=one, question=question):
            self.assertEqual(used(one, question), letters)

    def test_all_letters(self):
        self.told("ab", ((("a", 1), ("b", 2)), None), "ab")
        self.told("ba", ((("a", 1), ("b", 2)), None), "ba")
        self.told("ca", ((("a", 1), ("b", 2), ("c", 3)), None), "ca")
        self.told("a", ((("a", 1),), None), "a")
        self.told("b", ((("a", 1),), ("b", 0, 9)), "b")

    def test_some_letters(self):
        self.told("abc", ((("a", 1), ("b", 2)), None), "ab")
        self.told("cab", ((("b", 1), ("c", 2)), None), "c")
        self.told("abc", ((("a", 1), ("c", 2)), None), "a")

    def test_no_letter(self):
        self.told("abc", ((("b", 1), ("c", 2)), None), "")
        self.told("a", ((), ("b", 1, 2)), "")
        self.told("abc", ALL, "")

    def test_the_reach_next_behind_equals(self):
        self.told("abc", ((("a", 1),), ("b", 0, 9)), "ab")
        self.told("bac", ((("a", 1), ("b", 1)), ("c", 0, 9)), "bac")
        self.told("bacd", ((("a", 1), ("b", 1)), ("c", 0, 9)), "bac")
        self.told("cab", ((), ("c", 0, 9)), "c")

    def test_the_reach_ahead_of_equals(self):
        self.told("bac", ((("a", 1),), ("b", 0, 9)), "b")
        self.told("abc", ((("a", 1), ("c", 1)), ("b", 0, 9)), "ab")
        self.told("cba", ((("a", 1), ("b", 1)), ("c", 0, 9)), "c")

    def test_the_reach_behind_a_letter_that_is_not_asked(self):
        self.told("abc", ((("a", 1),), ("c", 0, 9)), "a")
        self.told("bc", ((("a", 1),), ("c", 0, 9)), "")

    def test_all_of_three_columns(self):
        for one in lists_of("abc"):
            for question in questions_of("abc"):
                self.assertEqual(used(one, question), used_as_told(one, question))


class Stretch(unittest.TestCase):
    def told(self, one, question, places, table=TABLE):
        with self.subTest(one=one, question=question):
            pair = stretch(table, one, question)
            self.assertIs(type(pair), tuple)
            self.assertEqual(pair, places)

    def test_of_all_rows(self):
        for one in lists_of("abc"):
            self.told(one, ALL, (0, 6))
        self.told("ab", ((("b", 1), ("c", 2)), None), (0, 6))
        self.told("ab", ((), ("a", 0, 999)), (0, 6))
        self.told("ab", ((), ("b", 5, 9)), (0, 6))

    def test_of_some_rows(self):
        self.told("ab", ((("a", 1),), None), (0, 3))
        self.told("ab", ((("a", 3),), None), (3, 5))
        self.told("ab", ((("a", 7),), None), (5, 6))
        self.told("ab", ((("a", 1), ("b", 2)), None), (1, 3))
        self.told("ba", ((("a", 1), ("b", 2)), None), (3, 5))
        self.told("ab", ((("a", 1),), ("b", 2, 3)), (1, 3))
        self.told("ab", ((), ("a", 2, 7)), (3, 6))
        self.told("ab", ((), ("a", 3, 3)), (3, 5))
        self.told("abc", ((("a", 1), ("c", 9)), None), (0, 3))

    def test_of_none_below_all(self):
        self.told("ab", ((("a", 0),), None), (0, 0))
        self.told("ab", ((), ("a", 0, 0)), (0, 0))
        self.told("ab", ((("a", 1), ("b", 0)), None), (0, 0))
        self.told("ab", ((("a", 1),), ("b", 0, 0)), (0, 0))

    def test_of_none_between(self):
        self.told("ab", ((("a", 2),), None), (3, 3))
        self.told("ab", ((("a", 4),), ("b", 0, 999)), (5, 5))
        self.told("ab", ((), ("a", 4, 6)), (5, 5))
        self.told("ab", ((("a", 3), ("b", 2)), None), (5, 5))
        self.told("ab", ((("a", 1), ("b", 3)), None), (3, 3))
        self.told("ab", ((("a", 1),), ("b", 3, 9)), (3, 3))
        self.told("ab", ((("a", 7),), ("b", 0, 3)), (5, 5))

    def test_of_none_above_all(self):
        self.told("ab", ((("a", 8),), None), (6, 6))
        self.told("ab", ((), ("a", 8, 999)), (6, 6))
        self.told("ab", ((("a", 7), ("b", 5)), None), (6, 6))
        self.told("ab", ((("a", 7),), ("b", 5, 999)), (6, 6))

    def test_order_of_the_list_not_of_equals(self):
        table = ("ab", ((1, 5), (5, 1), (3, 3)))
        self.told("ab", ((("a", 2), ("b", 4)), None), (1, 1), table)
        self.told("ba", ((("a", 2), ("b", 4)), None), (2, 2), table)
        self.told("ba", ((("a", 4), ("b", 2)), None), (1, 1), table)
        self.told("ba", ((("b", 3),), ("a", 0, 2)), (1, 1), table)
        self.told("ba", ((("b", 3),), ("a", 4, 5)), (2, 2), table)

    def test_without_rows(self):
        for question in (ALL, ((("a", 1),), None), ((("a", 1),), ("b", 0, 999)), ((), ("a", 3, 4))):
            self.told("ab", question, (0, 0), ("ab", ()))

    def test_as_told_over_small_tables(self):
        for table in SMALL_TABLES:
            for one in lists_of("abc"):
                for question in questions_of("abc"):
                    places, together = stretch_as_told(table, one, question)
                    self.assertTrue(together)
                    self.assertEqual(stretch(table, one, question), places, (table, one, question))


class Read(unittest.TestCase):
    def told(self, one, question, numbers, many):
        with self.subTest(one=one, question=question):
            pair = read(TABLE, one, question)
            self.assertIs(type(pair), tuple)
            self.assertEqual(pair, (numbers, many))

    def test_by_a_list_that_serves(self):
        self.told("ab", ((("a", 1), ("b", 2)), None), [1, 3], 2)
        self.told("ba", ((("a", 1),), ("b", 1, 2)), [1, 3, 4], 4)
        self.told("ab", ((("a", 1),), ("b", 1, 2)), [1, 3, 4], 3)
        self.told("a", ((), ("a", 3, 7)), [0, 2, 5], 3)

    def test_the_answer_rises_whatever_the_list(self):
        self.told("ba", ((), ("b", 0, 2)), [0, 1, 2, 3, 4], 5)
        self.told("ab", ALL, [0, 1, 2, 3, 4, 5], 6)
        self.told("cba", ((("c", 2),), None), [0, 1, 2, 3], 4)

    def test_rows_too_many(self):
        self.told("a", ((("a", 1), ("c", 9)), None), [4], 3)
        self.told("bc", ((("a", 3), ("b", 1)), None), [0], 2)
        self.told("c", ((("a", 1),), None), [1, 3, 4], 6)

    def test_nothing_found(self):
        self.told("a", ((("a", 2),), None), [], 0)
        self.told("a", ((("a", 3), ("b", 2)), None), [], 2)
        self.told("c", ((("a", 2),), None), [], 6)

    def test_over_small_tables(self):
        for table in SMALL_TABLES:
            for one in lists_of("abc"):
                for question in questions_of("abc"):
                    numbers, many = read(table, one, question)
                    self.assertEqual(numbers, answer(table, question))
                    start, end = stretch(table, one, question)
                    self.assertEqual(many, end - start)
                    if serves(one, question):
                        self.assertEqual(many, len(numbers))

    def test_the_told_list_is_the_askers_own(self):
        question = ((("a", 1),), None)
        read(TABLE, "ab", question)[0].append(9)
        self.assertEqual(read(TABLE, "ab", question), ([1, 3, 4], 3))
        self.assertIs(type(read(TABLE, "ab", question)[0]), list)
        read(("ab", ()), "a", ALL)[0].append(9)
        self.assertEqual(read(("ab", ()), "a", ALL), ([], 0))


class Serves(unittest.TestCase):
    def test_all_letters_used(self):
        two = ((("a", 1), ("b", 2)), None)
        for one in ("ab", "ba", "abc", "bac"):
            self.assertIs(serves(one, two), True)
        for one in ("a", "b", "c", "ac", "acb", "cab", "bca"):
            self.assertIs(serves(one, two), False)

    def test_with_a_reach(self):
        question = ((("a", 1),), ("b", 2, 3))
        for one in ("ab", "abc"):
            self.assertIs(serves(one, question), True)
        for one in ("a", "b", "ba", "bac", "acb", "cab"):
            self.assertIs(serves(one, question), False)
        for one in ("b", "ba", "bca"):
            self.assertIs(serves(one, ((), ("b", 2, 3))), True)
        self.assertIs(serves("ab", ((), ("b", 2, 3))), False)

    def test_a_question_without_letters(self):
        for one in lists_of("abc"):
            self.assertIs(serves(one, ALL), True)

    def test_all_of_three_columns(self):
        for one in lists_of("abc"):
            for question in questions_of("abc"):
                letters = {letter for letter, number in question[0]}
                if question[1] is not None:
                    letters.add(question[1][0])
                self.assertIs(serves(one, question), letters == set(used_as_told(one, question)))


if __name__ == "__main__":
    unittest.main()
