"""Promises [4] and [5]: tables, lists of columns, rows sorted by a list."""

import itertools
import unittest

from stretchkeep.tables import is_list, is_table, sorted_by
from tests.things import anything, lists_of, nested

TABLE = ("abc", ((3, 1, 2), (1, 2, 2), (3, 0, 2), (1, 2, 2), (1, 1, 9)))


class IsTable(unittest.TestCase):
    def none_is(self, things):
        for thing in things:
            with self.subTest(thing=thing):
                self.assertIs(is_table(thing), False)

    def all_are(self, things):
        for thing in things:
            with self.subTest(thing=thing):
                self.assertIs(is_table(thing), True)

    def test_one_to_six_columns(self):
        for many in range(1, 7):
            for columns in ("abcdef"[:many], "uvwxyz"[-many:], "aghmtz"[:many]):
                self.all_are([(columns, ()), (columns, (tuple(range(many)),))])

    def test_rows_none_to_sixty(self):
        for many in range(0, 61):
            self.all_are([("ab", tuple((number, 7) for number in range(many)))])

    def test_rows_alike(self):
        self.all_are([("ab", ((1, 2),) * 60), ("a", ((5,), (4,), (5,))), TABLE])

    def test_least_and_greatest_numbers(self):
        self.all_are([("ab", ((0, 999), (999, 0), (0, 0), (999, 999))), ("a", ((0,),)), ("a", ((999,),))])

    def test_wrong_columns(self):
        row = tuple(range(7))
        self.none_is([("", ()), ("", ((),)), ("abcdefg", ()), ("abcdefg", (row,)), ("abcdefghijkl", ())])
        self.none_is([("ba", ()), ("acb", ()), ("abcdfe", ()), ("aa", ()), ("abb", ()), ("aabcde", ())])
        self.none_is([("A", ()), ("Z", ()), ("Ab", ()), ("aB", ()), ("AB", ()), ("ab ", ()), (" ab", ())])
        self.none_is([("`", ()), ("{", ()), ("1", ()), ("a{", ()), ("~", ()), ("-", ()), ("a\n", ()), ("\t", ())])
        self.none_is([(("a",), ()), (["a"], ()), (("a", "b"), ()), (["a", "b"], ()), (None, ()), (1, ()), (True, ())])
        self.none_is([((), ()), ([], ()), (10 ** 59, ()), ("a" * 900, ())])

    def test_wrong_rows(self):
        self.none_is([("a", ((1,),) * 61), ("a", ((1,),) * 62), ("ab", ((1, 2),) * 61), ("a", ((1,),) * 300)])
        self.none_is([("ab", ((1,),)), ("ab", ((1, 2, 3),)), ("ab", ((),)), ("ab", ((1, 2), (1,)))])
        self.none_is([("ab", ((1, 2, 3), (1, 2))), ("a", ((1, 1),)), ("a", ((1,), ()))])
        self.none_is([("a", [(1,)]), ("a", ([1],)), ("a", ((1,), [1])), ("a", []), ("ab", [[1, 2]])])
        self.none_is([("a", None), ("a", 1), ("a", 0), ("a", True), ("a", False), ("a", ""), ("a", "a")])
        self.none_is([("a", (1,)), ("a", (1, 2)), ("a", (None,)), ("a", ("a",)), ("ab", ("ab",)), ("a", ("1",))])

    def test_wrong_numbers(self):
        wrong = [-1, -999, 1000, 10 ** 59, 10 ** 60 - 1, -(10 ** 59), True, False, "1", "", "a", None]
        wrong += [(), (1,), [1], [], nested(tuple, 96, 1), nested(list, 96, 1)]
        for number in wrong:
            self.none_is([("a", ((number,),)), ("a", ((1,), (number,)))])
            self.none_is([("abc", ((1, 2, number),)), ("abc", ((number, 2, 3),))])
            self.none_is([("abc", ((1, 2, 3), (1, number, 3)))])

    def test_wrong_parts(self):
        self.none_is([("a",), ("a", (), ()), ("a", ((1,),), None), ((), "a"), (((1,),), "a"), ("a", (), "")])
        self.none_is([["a", ()], ["a", ((1,),)], ["a", [[1]]], (("a", ()),), [("a", ())], "a", "ab"])

    def test_of_anything(self):
        self.none_is(anything())

    def test_a_table_within_others_is_none(self):
        self.none_is([nested(tuple, 1, TABLE), nested(list, 1, TABLE), nested(list, 90, TABLE)])
        self.none_is([(TABLE, TABLE), ("a", (TABLE,)), (TABLE, ())])


class IsList(unittest.TestCase):
    def test_each_order_of_letters(self):
        for columns in ("a", "bz", "abc", "aceg", "abcdef"):
            for one in lists_of(columns):
                self.assertIs(is_list(columns, one), True)

    def test_columns_of_eight_letters(self):
        columns = "abcdefgh"
        for one in lists_of("abh") + list(itertools.islice(itertools.permutations(columns), 0, 40320, 997)):
            self.assertIs(is_list(columns, "".join(one)), True)
        for one in ("hgfedcbah", "i", "abcdefghi", "aa", "hh", "", "H", "abcdefgg"):
            self.assertIs(is_list(columns, one), False)
        self.assertIs(is_list("qrstuvwx", "xq"), True)

    def test_what_is_none(self):
        wrong = ["", "aa", "aba", "abca", "cc", "d", "ad", "da", "abcd", "A", "aB", "C", " ", "a ", " a", "a b"]
        wrong += ["a,b", "a\n", "\t", "-", "`", "{", "1", "a1", "z", "None"]
        wrong += [("a",), ["a"], ("a", "b"), ["a", "b"], ("a", "b", "c"), ("abc",), ["abc"], ((), "a")]
        wrong += [None, True, False, 0, 1, 97, 10 ** 59, (), [], [[]], (("a",),), nested(tuple, 100, "a")]
        for thing in wrong:
            with self.subTest(thing=thing):
                self.assertIs(is_list("abc", thing), False)

    def test_of_anything(self):
        for thing in anything():
            with self.subTest(thing=thing):
                self.assertIs(is_list("bc", thing), False)
                self.assertIs(is_list("bcdefghi", thing), False)

    def test_letters_that_stand_apart_in_the_columns(self):
        for one in ("a", "m", "x", "am", "ax", "xa", "xma", "max"):
            self.assertIs(is_list("amx", one), True)
        for one in ("b", "n", "ab", "amxy", "mm"):
            self.assertIs(is_list("amx", one), False)


class SortedBy(unittest.TestCase):
    def test_by_one_letter_then_by_numbers(self):
        self.assertEqual(sorted_by(TABLE, "a"), [1, 3, 4, 0, 2])
        self.assertEqual(sorted_by(TABLE, "b"), [2, 0, 4, 1, 3])
        self.assertEqual(sorted_by(TABLE, "c"), [0, 1, 2, 3, 4])

    def test_by_several_letters_in_any_order(self):
        self.assertEqual(sorted_by(TABLE, "ab"), [4, 1, 3, 2, 0])
        self.assertEqual(sorted_by(TABLE, "ba"), [2, 4, 0, 1, 3])
        self.assertEqual(sorted_by(TABLE, "cb"), [2, 0, 1, 3, 4])
        self.assertEqual(sorted_by(TABLE, "ca"), [1, 3, 0, 2, 4])
        self.assertEqual(sorted_by(TABLE, "bca"), [2, 0, 4, 1, 3])
        self.assertEqual(sorted_by(TABLE, "bac"), [2, 4, 0, 1, 3])

    def test_letters_not_in_the_list_do_not_count(self):
        self.assertEqual(sorted_by(("ab", ((1, 9), (0, 5), (1, 2), (0, 7))), "a"), [1, 3, 0, 2])
        self.assertEqual(sorted_by(("ab", ((9, 1), (5, 0), (2, 1), (7, 0))), "b"), [1, 3, 0, 2])

    def test_numbers_are_sorted_as_numbers(self):
        self.assertEqual(sorted_by(("k", ((100,), (20,), (3,), (999,), (0,))), "k"), [4, 2, 1, 0, 3])

    def test_rows_alike_stand_by_their_numbers(self):
        for one in ("a", "ab", "ba"):
            self.assertEqual(sorted_by(("ab", ((4, 4),) * 60), one), list(range(60)))

    def test_without_rows(self):
        for one in lists_of("abc"):
            self.assertEqual(sorted_by(("abc", ()), one), [])

    def test_one_row(self):
        self.assertEqual(sorted_by(("xyz", ((1, 2, 3),)), "zx"), [0])

    def test_each_list_sorts_as_told(self):
        rows = tuple(tuple((number * factor) // 3 % 4 for factor in (7, 5, 11, 2)) for number in range(30))
        for one in lists_of("bdef"):
            told = sorted_by(("bdef", rows), one)
            self.assertEqual(sorted(told), list(range(30)))
            for first, second in zip(told, told[1:]):
                one_row = [rows[first]["bdef".index(letter)] for letter in one] + [first]
                next_row = [rows[second]["bdef".index(letter)] for letter in one] + [second]
                self.assertLess(one_row, next_row)

    def test_the_told_list_is_the_askers_own(self):
        told = sorted_by(TABLE, "ab")
        self.assertIs(type(told), list)
        self.assertIsNot(told, sorted_by(TABLE, "ab"))
        told.clear()
        self.assertEqual(sorted_by(TABLE, "ab"), [4, 1, 3, 2, 0])
        empty = sorted_by(("a", ()), "a")
        empty.append(5)
        self.assertEqual(sorted_by(("a", ()), "a"), [])


if __name__ == "__main__":
    unittest.main()
