"""Promises [8], [9] and [10]: prices of questions and choices, rooms, choices cut."""

import itertools
import unittest

from stretchkeep.prices import cut, price, price_by, price_of, room
from stretchkeep.stretches import stretch, used
from tests.things import lists_of
from tests.told import price_as_told, price_by_as_told, used_as_told
from tests.works import A_IS_0, A_IS_1_B_IS_3, B_IS_2, EIGHT, THREE, great_works, small_works

ALL = ((), None)
MOST = 1000000


def some_choices(columns, longest=3):
    """All choices of at most so many of the lists of one or two letters, and one of all lists."""
    lists = sorted(one for one in lists_of(columns) if len(one) < 3)
    found = [tuple(sorted(lists_of(columns)))]
    for many in range(longest + 1):
        found.extend(itertools.combinations(lists, many))
    return found


class PriceBy(unittest.TestCase):
    def test_by_a_list_one_more_than_its_stretch(self):
        told = ((A_IS_0, (5, 9, 5, 9)), (B_IS_2, (9, 3, 9, 3)), (A_IS_1_B_IS_3, (5, 3, 2, 2)))
        for question, prices in told:
            for one, worth in zip(("a", "b", "ab", "ba"), prices):
                self.assertEqual(price_by(EIGHT, one, question), worth)

    def test_by_none_all_rows(self):
        for question in (A_IS_0, B_IS_2, A_IS_1_B_IS_3, ALL):
            self.assertEqual(price_by(EIGHT, None, question), 8)
        self.assertEqual(price_by(("a", ((1,),) * 60), None, ((("a", 2),), None)), 60)

    def test_above_that_by_a_list(self):
        for one in lists_of("ab"):
            self.assertEqual(price_by(EIGHT, one, ALL), 9)
        self.assertEqual(price_by(EIGHT, "ab", ((), ("a", 0, 999))), 9)

    def test_a_stretch_of_no_row(self):
        self.assertEqual(price_by(EIGHT, "a", ((("a", 7),), None)), 1)
        self.assertEqual(price_by(EIGHT, "ba", ((("b", 1),), ("a", 2, 9))), 1)

    def test_without_rows(self):
        for question in (ALL, ((("a", 7),), None), ((), ("b", 0, 999))):
            self.assertEqual(price_by(("ab", ()), None, question), 0)
            self.assertEqual(price_by(("ab", ()), "ab", question), 1)

    def test_a_reach(self):
        self.assertEqual(price_by(EIGHT, "ab", ((("a", 1),), ("b", 1, 2))), 3)
        self.assertEqual(price_by(EIGHT, "ba", ((("a", 1),), ("b", 1, 2))), 5)
        self.assertEqual(price_by(EIGHT, "a", ((("a", 1),), ("b", 1, 2))), 5)

    def test_as_told(self):
        for table, asks, _ in small_works(8, 60) + great_works(8, 3):
            for question, _ in asks:
                self.assertEqual(price_by(table, None, question), len(table[1]))
                for one in lists_of(table[0]):
                    start, end = stretch(table, one, question)
                    self.assertEqual(price_by(table, one, question), end - start + 1)
                    self.assertEqual(price_by(table, one, question), price_by_as_told(table, one, question))


class PriceOf(unittest.TestCase):
    def told(self, choice, question, worth):
        with self.subTest(choice=choice, question=question):
            self.assertEqual(price_of(EIGHT, choice, question), worth)

    def test_an_empty_choice(self):
        for question in (A_IS_0, B_IS_2, A_IS_1_B_IS_3, ALL):
            self.told((), question, 8)
        self.assertEqual(price_of(("a", ()), (), ALL), 0)

    def test_by_no_list_too(self):
        self.told(("b",), A_IS_0, 8)
        self.told(("a", "ab"), B_IS_2, 8)
        self.told(("a", "ab", "b", "ba"), ALL, 8)
        self.assertEqual(price_of(("a", ()), ("a",), ((("a", 1),), None)), 0)

    def test_the_least_by_a_choice(self):
        self.told(("a",), A_IS_0, 5)
        self.told(("a", "b"), A_IS_0, 5)
        self.told(("a", "b"), B_IS_2, 3)
        self.told(("a", "b"), A_IS_1_B_IS_3, 3)
        self.told(("a", "ba"), A_IS_1_B_IS_3, 2)
        self.told(("ab", "b"), A_IS_1_B_IS_3, 2)

    def test_many_lists(self):
        self.told(("a", "ab", "b", "ba"), A_IS_0, 5)
        self.told(("a", "ab", "b", "ba"), A_IS_1_B_IS_3, 2)
        for table, asks, _ in great_works(9, 2):
            lists = lists_of(table[0])
            for question, _ in asks:
                least = min([len(table[1])] + [price_by_as_told(table, one, question) for one in lists])
                self.assertEqual(price_of(table, tuple(sorted(lists)), question), least)


class Price(unittest.TestCase):
    def test_by_hand(self):
        for choice, worth in (((), 24), (("a",), 18 + 2), (("b",), 14 + 2), (("a", "b"), 11 + 4), (("ab",), 15 + 3),
                              (("a", "ba"), 10 + 5), (("a", "ab", "b", "ba"), 10 + 10)):
            self.assertEqual(price(THREE, choice), worth)
            self.assertEqual(price((EIGHT, THREE[1], 0), choice), worth - room(choice) - len(choice))

    def test_without_asks(self):
        for choice in some_choices("ab"):
            self.assertEqual(price((EIGHT, (), 0), choice), 0)
            self.assertEqual(price((EIGHT, (), 7), choice), 7 * (room(choice) + len(choice)))

    def test_five_asks(self):
        asks = ((A_IS_0, 1), (B_IS_2, 10), (A_IS_1_B_IS_3, 100), (ALL, 1000), (((), ("a", 1, 1)), 10000))
        self.assertEqual(price((EIGHT, asks, 0), ()), 8 * 11111)
        self.assertEqual(price((EIGHT, asks, 0), ("a",)), 5 + 80 + 500 + 8000 + 50000)
        self.assertEqual(price((EIGHT, asks, 3), ("ab", "ba")), 5 + 30 + 200 + 8000 + 50000 + 18)

    def test_the_same_question_twice(self):
        self.assertEqual(price((EIGHT, ((A_IS_0, 2), (A_IS_0, 3)), 1), ("a",)), 25 + 2)
        self.assertEqual(price((EIGHT, ((A_IS_0, 2), (B_IS_2, 1), (A_IS_0, 2)), 1), ("a",)), 20 + 8 + 2)

    def test_bounds_of_often_and_changes(self):
        for often, changes in itertools.product((1, MOST), (0, MOST)):
            work = (EIGHT, ((A_IS_0, often), (B_IS_2, often)), changes)
            self.assertEqual(price(work, ()), 16 * often)
            self.assertEqual(price(work, ("a", "ba")), 8 * often + 5 * changes)

    def test_tables_of_no_row_and_of_forty(self):
        self.assertEqual(price((("ab", ()), ((A_IS_0, 5), (ALL, 6)), 2), ("a", "ba")), 10)
        forty = ("ab", tuple((number // 10, number % 10) for number in range(40)))
        self.assertEqual(price((forty, ((A_IS_0, 5), (B_IS_2, 6)), 2), ("a",)), 5 * 11 + 6 * 40 + 4)

    def test_as_told(self):
        for work in small_works(10, 40):
            for choice in some_choices(work[0][0], 2):
                self.assertEqual(price(work, choice), price_as_told(work, choice))
        for work in great_works(10, 2):
            for choice in some_choices("abcd", 1):
                self.assertEqual(price(work, choice), price_as_told(work, choice))

    def test_rooms(self):
        for choice, letters in (((), 0), (("a",), 1), (("ab", "b"), 3), (("abcd", "ba", "c"), 7), (("abcdef",), 6)):
            self.assertEqual(room(choice), letters)
        self.assertEqual(room(tuple(sorted(lists_of("abcd")))), 4 + 24 + 72 + 96)


class Cut(unittest.TestCase):
    def told(self, work, choice, shorter):
        with self.subTest(choice=choice):
            told = cut(work, choice)
            self.assertIs(type(told), tuple)
            self.assertEqual(told, shorter)

    def test_all_letters_used(self):
        for choice in (("a",), ("b",), ("ab",), ("ba",), ("a", "ab", "b", "ba")):
            self.told(THREE, choice, choice)

    def test_some_letters_used(self):
        work = (("abcd", ()), ((A_IS_0, 1), (((("b", 1),), ("c", 0, 9)), 1)), 1)
        self.told(work, ("abcd",), ("a",))
        self.told(work, ("bca",), ("bc",))
        self.told(work, ("bac",), ("b",))
        self.told(work, ("cb",), ("c",))
        self.told(work, ("ab", "bcd", "da"), ("a", "bc"))

    def test_no_letter_used(self):
        self.told((EIGHT, ((A_IS_0, 1),), 1), ("b", "ba"), ())
        self.told((EIGHT, (), 1), ("a", "ab"), ())
        self.told((EIGHT, ((ALL, 5),), 1), ("a", "ab"), ())
        self.told(THREE, (), ())

    def test_the_longest_of_several(self):
        asks = ((A_IS_0, 1), (A_IS_1_B_IS_3, 1), (ALL, 1), (B_IS_2, 1))
        for order in itertools.permutations(asks):
            self.told((("abc", ()), order, 1), ("abc", "bc"), ("ab", "b"))

    def test_two_lists_with_the_same_cut(self):
        work = (("abc", ()), ((A_IS_0, 1),), 1)
        self.told(work, ("ab", "ac"), ("a",))
        self.told(work, ("a", "abc", "acb", "bc"), ("a",))

    def test_the_cut_choice_rises(self):
        # "bca" stands ahead of "bd", cut they are "bc" and "b".
        work = (("abcd", ()), ((((("b", 1), ("c", 1)), None), 1),), 1)
        self.told(work, ("bca", "bd"), ("b", "bc"))

    def test_over_many_works(self):
        for work in small_works(11, 60):
            table, asks, changes = work
            for choice in some_choices(table[0], 2):
                told = cut(work, choice)
                uses = [max([used_as_told(one, question) for question, _ in asks], key=len, default="")
                        for one in choice]
                self.assertEqual(told, tuple(sorted(set(uses) - {""})))
                self.assertLessEqual(price(work, told), price(work, choice))
                self.assertLessEqual(room(told), room(choice))
                self.assertEqual(cut(work, told), told)
                for one in told:
                    self.assertIn(one, [used(one, question) for question, _ in asks])


if __name__ == "__main__":
    unittest.main()
