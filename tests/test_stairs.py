"""Promises [12] and [13]: stairs, and lists chosen by and by."""

import itertools
import random
import time
import unittest

from stretchkeep.cheapest import cheapest
from stretchkeep.stairs import by_and_by, stairs
from tests.things import lists_of
from tests.told import Prices
from tests.works import A_IS_0, B_IS_2, EIGHT, THREE, great_works, small_works, some_work

SOON = 20
# Each ask is served by a list that serves none of the others.
FOUR = (
    ("abc", tuple(itertools.product(range(3), range(3), range(4)))),
    tuple(((((first, 1),), (second, 2, 2)), 5) for first, second in ("ab", "ac", "ba", "bc")),
    1,
)


class Stairs(unittest.TestCase):
    def test_by_hand(self):
        steps = [(0, 24), (1, 16), (2, 15)]
        for room in range(7):
            self.assertEqual(stairs(THREE, room), steps[:room + 1])
        free = [(0, 24), (1, 14), (2, 11), (3, 10)]
        for room in range(7):
            self.assertEqual(stairs((EIGHT, THREE[1], 0), room), free[:room + 1])
        self.assertEqual(stairs((EIGHT, THREE[1], 1000000), 6), [(0, 24)])

    def test_a_room_without_a_step(self):
        # By a or by b 30 and twice 6, by both letters 20 and three times 6.
        table = ("ab", ((0, 0), (0, 1), (1, 0), (1, 1)))
        both = (table, ((((("a", 1), ("b", 1)), None), 10),), 6)
        self.assertEqual(stairs(both, 6), [(0, 40), (2, 38)])
        self.assertEqual(stairs(both, 1), [(0, 40)])

    def test_room_0_is_always_there(self):
        for work in small_works(40, 30) + [(EIGHT, (), 0), (("a", ()), (), 5), (("a", ()), ((A_IS_0, 3),), 5)]:
            least = Prices(work).price(())
            self.assertEqual(stairs(work, 0), [(0, least)])
            self.assertEqual(stairs(work, 6)[0], (0, least))

    def check(self, work, room, leasts):
        told = stairs(work, room)
        self.assertIs(type(told), list)
        steps = []
        for size, least in enumerate(leasts[:room + 1]):
            if all(least < lesser for lesser in leasts[:size]):
                steps.append((size, least))
        self.assertEqual(told, steps)
        for one, other in zip(told, told[1:]):
            self.assertIs(type(one), tuple)
            self.assertLess(one[0], other[0])
            self.assertGreater(one[1], other[1])

    def test_against_all_choices(self):
        for work in small_works(41, 60) + great_works(41, 2):
            prices = Prices(work)
            leasts = [prices.least(room) for room in range(7)]
            for room in range(7):
                self.check(work, room, leasts)

    def test_each_price_is_that_of_cheapest(self):
        for work in small_works(42, 40) + great_works(42, 4):
            leasts = [cheapest(work, room)[0] for room in range(7)]
            self.check(work, 6, leasts)

    def test_soon_at_the_bounds(self):
        begun = time.perf_counter()
        for work in great_works(43, 10):
            stairs(work, 6)
        self.assertLess(time.perf_counter() - begun, SOON)

    def test_the_told_list_is_the_askers_own(self):
        told = stairs(THREE, 6)
        told.clear()
        self.assertEqual(stairs(THREE, 6), [(0, 24), (1, 16), (2, 15)])
        self.assertIsNot(stairs(THREE, 0), stairs(THREE, 0))


class ByAndBy(unittest.TestCase):
    def test_by_hand(self):
        # Saved by a 6, by b 10, by ab 9, by ba 11; then by a, or ab, 3 more.
        self.assertEqual(by_and_by(THREE, 1), (("ba",), 11))
        for many in (2, 3, 4):
            choice, saved = by_and_by(THREE, many)
            self.assertEqual(saved, 14)
            self.assertIn(choice, (("a", "ba"), ("ab", "ba")))

    def test_it_ends_where_nothing_more_is_saved(self):
        for many in (1, 2, 3, 4):
            self.assertEqual(by_and_by((EIGHT, (), 1), many), ((), 0))
            self.assertEqual(by_and_by((EIGHT, ((((), None), 9),), 1), many), ((), 0))
            self.assertEqual(by_and_by((("ab", ()), ((A_IS_0, 9), (B_IS_2, 9)), 1), many), ((), 0))
            choice, saved = by_and_by((EIGHT, ((A_IS_0, 7),), 1), many)
            self.assertIn((choice, saved), ((("a",), 21), (("ab",), 21)))

    def test_a_list_that_costs_as_much_as_none_saves_nothing(self):
        table = ("a", ((0,), (0,), (0,), (1,)))
        self.assertEqual(by_and_by((table, ((A_IS_0, 5),), 0), 4), ((), 0))
        self.assertEqual(by_and_by((table, ((((("a", 1),), None), 5),), 0), 4), (("a",), 10))

    def is_by_and_by(self, prices, order):
        """Whether each list of the order is one by which, with those ahead, most is saved, and something more."""
        for at in range(len(order)):
            there = prices.saved(order[:at])
            most = max(prices.saved([*order[:at], one]) for one in prices.lists)
            if prices.saved(order[:at + 1]) != most or most == there:
                return False
        return True

    def check(self, work, many):
        prices = Prices(work)
        told = by_and_by(work, many)
        self.assertIs(type(told), tuple)
        choice, saved = told
        self.assertIs(type(choice), tuple)
        self.assertEqual(list(choice), sorted(set(choice)))
        self.assertLessEqual(len(choice), many)
        self.assertLessEqual(set(choice), set(lists_of(work[0][0])))
        self.assertEqual(saved, prices.saved(choice))
        self.assertTrue(any(self.is_by_and_by(prices, order) for order in itertools.permutations(choice)))
        if len(choice) < many:
            for one in prices.lists:
                self.assertEqual(prices.saved([*choice, one]), saved)
        return prices, choice, saved

    def test_each_list_saves_most_more(self):
        for work in small_works(45, 80) + great_works(45, 6):
            for many in (1, 2, 3, 4):
                with self.subTest(work=work, many=many):
                    self.check(work, many)

    def test_the_told_share(self):
        chance = random.Random(46)
        met = set()
        for work in [some_work(chance, "abc", 20, 5) for _ in range(40)] + small_works(46, 40) + [FOUR]:
            for many in (1, 2, 3, 4):
                prices, choice, saved = self.check(work, many)
                k = len(choice)
                most = max(prices.saved(lists) for lists in itertools.combinations(prices.lists, k))
                self.assertLessEqual(most * (k ** k - (k - 1) ** k), saved * k ** k)
                met.add((k, saved < most))
        # Each number of lists was met, and works where others save more, too.
        self.assertLessEqual({(k, False) for k in range(5)} | {(2, True)}, met)

    def test_changes_play_no_part(self):
        for work in small_works(47, 30):
            for many in (1, 3):
                told = {by_and_by((work[0], work[1], changes), many)[1] for changes in (0, 1, 1000000)}
                self.assertEqual(len(told), 1)
                self.check((work[0], work[1], 1000000), many)

    def test_the_same_question_twice_counts_twice(self):
        work = (EIGHT, ((A_IS_0, 2), (B_IS_2, 1), (A_IS_0, 2)), 1)
        choice, saved = by_and_by(work, 1)
        self.assertIn(choice, (("a",), ("ab",)))
        self.assertEqual(saved, 12)


if __name__ == "__main__":
    unittest.main()
