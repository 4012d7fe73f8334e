"""Promise [14]: needs, and the fewest lists that serve them."""

import itertools
import random
import time
import unittest

from stretchkeep.fewest import fewest, is_need, serves_need
from stretchkeep.tables import is_list
from tests.things import anything, lists_of, nested
from tests.told import needs_of, serves_need_as_told

EIGHT_LETTERS = "abcdefgh"
SOON = 20


class IsNeed(unittest.TestCase):
    def none_is(self, things, columns="abc"):
        for thing in things:
            with self.subTest(thing=thing):
                self.assertIs(is_need(columns, thing), False)

    def all_are(self, things, columns="abc"):
        for thing in things:
            with self.subTest(thing=thing):
                self.assertIs(is_need(columns, thing), True)

    def test_with_and_without_a_reach(self):
        self.all_are([("a", ""), ("b", ""), ("ab", ""), ("ac", ""), ("abc", "")])
        self.all_are([("a", "b"), ("a", "c"), ("b", "a"), ("ac", "b"), ("bc", "a"), ("ab", "c")])

    def test_without_equals(self):
        self.all_are([("", "a"), ("", "b"), ("", "c")])

    def test_all_needs_of_some_columns(self):
        for columns in ("a", "bz", "abc", "dmxz"):
            texts = ["".join(letters) for many in range(len(columns) + 1)
                     for letters in itertools.product(columns, repeat=many)]
            needs = needs_of(columns)
            for need in itertools.product(texts, texts[:1 + len(columns) + len(columns) ** 2]):
                self.assertIs(is_need(columns, need), need in needs)

    def test_columns_of_eight_letters(self):
        self.all_are([(EIGHT_LETTERS, ""), ("abcdefg", "h"), ("bcdefgh", "a"), ("", "h"), ("ah", "d")], EIGHT_LETTERS)
        self.none_is([(EIGHT_LETTERS, "a"), (EIGHT_LETTERS, "i"), ("abcdefghi", ""), ("", "i"), ("ha", "")],
                     EIGHT_LETTERS)
        self.all_are([("sz", "u"), ("stuvwxyz", "")], "stuvwxyz")

    def test_both_without_a_letter(self):
        self.none_is([("", "")])
        self.none_is([("", "")], "a")
        self.none_is([("", "")], EIGHT_LETTERS)

    def test_letters_not_rising_or_twice(self):
        self.none_is([("ba", ""), ("acb", ""), ("cba", ""), ("ba", "c"), ("aa", ""), ("abb", ""), ("aab", ""),
                      ("aa", "b"), ("aba", ""), ("abca", "")])

    def test_letters_not_of_the_columns(self):
        self.none_is([("d", ""), ("ad", ""), ("", "d"), ("a", "d"), ("A", ""), ("", "A"), ("a", "B"), (" ", ""),
                      ("a", " "), ("a ", ""), (" a", ""), ("-", ""), ("a\n", ""), ("`", ""), ("{", ""), ("1", ""),
                      ("z", ""), ("abcd", "")])
        self.none_is([("b", ""), ("ab", ""), ("", "b"), ("a", "b")], "ac")

    def test_the_reach_among_equals(self):
        self.none_is([("a", "a"), ("ab", "b"), ("abc", "a"), ("abc", "b"), ("ac", "c")])

    def test_a_reach_of_two_letters(self):
        self.none_is([("", "ab"), ("a", "bc"), ("", "aa"), ("c", "ab"), ("", "abc"), ("a", "cb")])

    def test_lists_for_tuples_and_for_texts(self):
        self.none_is([["a", ""], ["a", "b"], ["", "a"], (["a"], ""), (("a",), ""), ("a", ["b"]), ("a", ("b",)),
                      ([], "a"), ((), "a"), ("a", ()), ("a", []), (("a", "b"), ""), (["a", "b"], "c")])

    def test_parts_more_or_fewer(self):
        self.none_is([("a",), ("a", "b", ""), ("a", "b", "c"), (), ("a", "", ""), "ab", "a", ("", "", "a")])

    def test_other_things(self):
        for thing in (None, True, False, 0, 1, 10 ** 59, nested(list, 98, "a"), nested(tuple, 98, "b"), "a" * 900):
            self.none_is([(thing, ""), (thing, "a"), ("a", thing), ("", thing), (thing, thing), thing, (thing,)])

    def test_of_anything(self):
        known = needs_of("ab")
        for thing in anything():
            self.assertIs(is_need("ab", thing), isinstance(thing, tuple) and thing in known)
        self.none_is(anything(), "xy")
        self.none_is(anything(), "stuvwxyz")


class ServesNeed(unittest.TestCase):
    def test_letters_of_equals_in_any_order(self):
        for one in itertools.permutations("abc"):
            self.assertIs(serves_need("".join(one), ("abc", "")), True)
            self.assertIs(serves_need("".join(one) + "d", ("abc", "")), True)
            self.assertIs(serves_need("".join(one) + "d", ("abc", "d")), True)

    def test_the_reach_next(self):
        for one in ("abc", "bac", "abcd", "bacd"):
            self.assertIs(serves_need(one, ("ab", "c")), True)
        for one in ("c", "ca", "cab"):
            self.assertIs(serves_need(one, ("", "c")), True)

    def test_letters_behind(self):
        for one in ("a", "ab", "abc", "acb", "adcb"):
            self.assertIs(serves_need(one, ("a", "")), True)

    def test_too_few_letters(self):
        for one, need in (("a", ("ab", "")), ("ab", ("ab", "c")), ("a", ("a", "b")), ("a", ("abc", "")),
                          ("ba", ("abc", "d")), ("b", ("ab", "c"))):
            self.assertIs(serves_need(one, need), False)

    def test_the_reach_at_another_place(self):
        for one in ("cab", "acb", "bca", "abdc", "badc", "c", "ca", "ab"):
            self.assertIs(serves_need(one, ("ab", "c")), False)
        for one in ("ac", "a", "bac"):
            self.assertIs(serves_need(one, ("", "c")), False)

    def test_other_letters_first(self):
        for one in ("b", "ba", "ca", "cab", "acb"):
            self.assertIs(serves_need(one, ("ab", "")), one == "ba")

    def test_all_of_four_columns(self):
        for one in lists_of("abcd"):
            for need in needs_of("abcd"):
                self.assertIs(serves_need(one, need), serves_need_as_told(one, need))


def one_list_serves(first, second):
    """Whether any list serves both: if so, one does that has the letters of one need first."""
    for needs in ((first, second), (second, first)):
        letters = "".join(equals + reach for equals, reach in needs)
        one = "".join(dict.fromkeys(letters))
        if all(serves_need_as_told(one, need) for need in needs):
            return True
    return False


def fewest_of_all(columns, needs):
    """How few lists serve all needs, found by going through all sets of lists."""
    serving = [{at for at, need in enumerate(needs) if serves_need_as_told(one, need)} for one in lists_of(columns)]
    serving = [served for served in serving if served]
    for many in itertools.count(1):
        for picks in itertools.combinations(serving, many):
            if len(set().union(*picks)) == len(needs):
                return many


class Fewest(unittest.TestCase):
    def check(self, columns, needs):
        """Whether what is told keeps to the words of [14]; as many needs apart as lists show that no fewer do."""
        told = fewest(columns, needs)
        self.assertIs(type(told), tuple)
        lists, apart = told
        self.assertIs(type(lists), list)
        self.assertIs(type(apart), tuple)
        for one in lists:
            self.assertTrue(is_list(columns, one), one)
        for need in needs:
            self.assertTrue(any(serves_need_as_told(one, need) for one in lists), need)
        self.assertEqual(len(apart), len(lists))
        self.assertEqual(list(apart), sorted(set(apart)))
        self.assertLessEqual(set(apart), set(range(len(needs))))
        for first, second in itertools.combinations(apart, 2):
            self.assertFalse(one_list_serves(needs[first], needs[second]), (needs[first], needs[second]))
        return len(lists)

    def test_one_need(self):
        for need in needs_of("abcd"):
            self.assertEqual(self.check("abcd", [need]), 1)
        self.assertEqual(fewest("abc", [("", "b")]), (["b"], (0,)))

    def test_by_hand(self):
        self.assertEqual(self.check("abc", [("a", ""), ("ab", ""), ("abc", "")]), 1)
        self.assertEqual(self.check("abc", [("a", ""), ("b", "")]), 2)
        self.assertEqual(self.check("abc", [("a", "b"), ("ab", "c")]), 1)
        self.assertEqual(self.check("abc", [("a", "b"), ("b", "a")]), 2)
        self.assertEqual(self.check("abc", [("a", "b"), ("a", "c")]), 2)
        self.assertEqual(self.check("abc", [("a", "b"), ("a", "")]), 1)
        self.assertEqual(self.check("abc", [("a", "b"), ("ab", "")]), 1)
        self.assertEqual(self.check("abc", [("a", "b"), ("ac", "")]), 2)
        self.assertEqual(self.check("abc", [("", "a"), ("a", "")]), 1)
        self.assertEqual(self.check("abc", [("", "a"), ("a", "b"), ("", "b"), ("b", "c")]), 2)
        self.assertEqual(self.check("abc", [("", "a"), ("", "b"), ("", "c")]), 3)
        self.assertEqual(fewest("abc", [("abc", ""), ("c", ""), ("", "c"), ("bc", "")])[0], ["cba"])

    def test_where_a_greedy_way_takes_too_many(self):
        # a may go with ab or ac, b with ab alone: so a has to go with ac.
        for order in itertools.permutations([("a", ""), ("b", ""), ("ab", ""), ("ac", "")]):
            self.assertEqual(self.check("abc", list(order)), 2)

    def test_needs_alike(self):
        self.assertEqual(self.check("abc", [("a", "b")] * 12), 1)
        self.assertEqual(self.check("abc", [("a", ""), ("a", ""), ("b", ""), ("a", ""), ("b", "")]), 2)
        self.assertEqual(self.check("abc", [("a", "b"), ("a", "c"), ("a", "b"), ("a", "c"), ("a", "")]), 2)

    def test_pairs_against_all_lists(self):
        lists = lists_of("abc")
        for first, second in itertools.product(needs_of("abc"), repeat=2):
            both = any(serves_need_as_told(one, first) and serves_need_as_told(one, second) for one in lists)
            self.assertEqual(one_list_serves(first, second), both)
            self.assertEqual(self.check("abc", [first, second]), 1 if both else 2)

    def test_against_all_sets_of_lists(self):
        chance = random.Random(50)
        for columns, times in (("a", 5), ("ab", 30), ("abc", 80)):
            needs = needs_of(columns)
            for _ in range(times):
                some = [chance.choice(needs) for _ in range(chance.randint(1, 6))]
                lists, apart = fewest(columns, some)
                self.assertEqual(self.check(columns, some), fewest_of_all(columns, some))
                for one in lists_of(columns):
                    self.assertLess(len([at for at in apart if serves_need_as_told(one, some[at])]), 2)

    def test_all_needs_of_three_columns(self):
        self.check("abc", needs_of("abc"))
        self.check("abc", needs_of("abc")[::-1])

    def test_some_needs_of_eight_columns(self):
        chance = random.Random(51)
        needs = needs_of(EIGHT_LETTERS)
        begun = time.perf_counter()
        for _ in range(150):
            self.check(EIGHT_LETTERS, [chance.choice(needs) for _ in range(12)])
        self.assertLess(time.perf_counter() - begun, SOON)

    def test_chains_of_eight_columns(self):
        chance = random.Random(52)
        for _ in range(150):
            needs = []
            for _ in range(3):
                letters = "".join(chance.sample(EIGHT_LETTERS, 8))
                for many in chance.sample(range(1, 8), 4):
                    reach = chance.choice(("", letters[many]))
                    needs.append(("".join(sorted(letters[:many])), reach))
            chance.shuffle(needs)
            self.assertLessEqual(self.check(EIGHT_LETTERS, needs), 3)

    def test_twelve_needs_apart(self):
        needs = [(equals, reach) for equals in ("abcd", "abce", "abcf") for reach in "gh"]
        needs += [(equals, "") for equals in ("abdef", "acdef", "bcdef", "abdeg", "acdeg", "bcdeg")]
        self.assertEqual(self.check(EIGHT_LETTERS, needs), 12)

    def test_the_told_list_is_the_askers_own(self):
        needs = [("a", ""), ("b", "")]
        told = fewest("ab", needs)
        told[0].clear()
        self.assertEqual(sorted(fewest("ab", needs)[0]), ["a", "b"])
        self.assertEqual(needs, [("a", ""), ("b", "")])

    def test_somewhat_beyond_the_bounds(self):
        self.assertEqual(fewest("ab", []), ([], ()))
        self.check("abcd", needs_of("abcd"))


if __name__ == "__main__":
    unittest.main()
