"""Promise [11]: the least price within a room, a choice that has it and a tree that shows it."""

import time
import unittest

from stretchkeep.cheapest import cheapest, shows
from stretchkeep.tables import is_list
from tests.told import Prices, price_as_told
from tests.works import A_IS_0, B_IS_2, EIGHT, THREE, great_works, small_works

SOON = 20


class Cheapest(unittest.TestCase):
    def check(self, work, room, least, prices):
        """Whether what is told keeps to all words of [11]."""
        told = cheapest(work, room)
        self.assertIs(type(told), tuple)
        price, choice, tree = told
        self.assertEqual(price, least)
        self.assertIs(type(choice), tuple)
        self.assertEqual(list(choice), sorted(set(choice)))
        for one in choice:
            self.assertTrue(is_list(work[0][0], one))
        self.assertLessEqual(sum(len(one) for one in choice), room)
        self.assertEqual(price_as_told(work, choice), price)
        self.assertIs(shows(work, room, price, tree), True)
        self.assertTrue(prices.shows(room, price, tree))
        for number in (price - 1, price // 2, 0, -1, -(10 ** 59)):
            if number < price:
                self.assertIs(shows(work, room, number, tree), True)
        for number in (price + 1, 2 * price + 1, 10 ** 59):
            self.assertIs(shows(work, room, number, tree), False)
            self.assertFalse(prices.shows(room, number, tree))

    def test_by_hand(self):
        prices = Prices(THREE)
        for room, least in enumerate((24, 16, 15, 15, 15, 15, 15)):
            with self.subTest(room=room):
                self.check(THREE, room, least, prices)
        self.assertEqual(cheapest(THREE, 1)[:2], (16, ("b",)))
        self.assertEqual(cheapest(THREE, 2)[:2], (15, ("a", "b")))

    def test_room_0(self):
        for work in small_works(20, 30):
            price, choice, tree = cheapest(work, 0)
            self.assertEqual(choice, ())
            self.assertEqual(price, price_as_told(work, ()))
            self.check(work, 0, price, Prices(work))

    def test_against_all_choices_of_small_works(self):
        for work in small_works(21, 90):
            prices = Prices(work)
            for room in range(7):
                with self.subTest(work=work, room=room):
                    self.check(work, room, prices.least(room), prices)

    def test_more_room_is_never_dearer(self):
        for work in small_works(22, 60) + great_works(22, 3):
            told = [cheapest(work, room)[0] for room in range(7)]
            self.assertEqual(told, sorted(told, reverse=True))

    def test_against_all_choices_at_the_bounds(self):
        for work in great_works(23, 6):
            prices = Prices(work)
            for room in (3, 6):
                with self.subTest(work=work, room=room):
                    self.check(work, room, prices.least(room), prices)

    def test_soon_at_the_bounds(self):
        begun = time.perf_counter()
        for work in great_works(24, 25):
            price, choice, tree = cheapest(work, 6)
            self.assertIs(shows(work, 6, price, tree), True)
            self.assertIs(shows(work, 6, price + 1, tree), False)
        self.assertLess(time.perf_counter() - begun, SOON)

    def test_a_tree_is_for_its_own_work_and_room(self):
        price, choice, tree = cheapest(THREE, 1)
        self.assertIs(shows(THREE, 1, price, tree), True)
        self.assertIs(shows(THREE, 2, price, tree), False)
        self.assertIs(shows((EIGHT, THREE[1][:2], 1), 1, price, tree), False)

    def test_dear_changes(self):
        work = (EIGHT, THREE[1], 1000000)
        prices = Prices(work)
        for room in range(7):
            self.check(work, room, 24, prices)
            self.assertEqual(cheapest(work, room)[1], ())

    def test_free_changes(self):
        work = (EIGHT, THREE[1], 0)
        prices = Prices(work)
        for room, least in enumerate((24, 14, 11, 10, 10, 10, 10)):
            self.check(work, room, least, prices)

    def test_without_asks_and_without_rows(self):
        for work in ((EIGHT, (), 0), (EIGHT, (), 5), (("ab", ()), (), 1), (("ab", ()), ((A_IS_0, 9), (B_IS_2, 1)), 1)):
            for room in range(7):
                self.check(work, room, 0, Prices(work))

    def test_somewhat_beyond_the_bounds(self):
        asks = tuple((((("e", number),), ("a", 0, number)), number + 1) for number in range(7))
        work = (("abcde", tuple((number % 5, 1, 2, 3, number % 7) for number in range(50))), asks, 1)
        price, choice, tree = cheapest(work, 8)
        self.assertEqual(price, price_as_told(work, choice))
        self.assertIs(shows(work, 8, price, tree), True)
        self.assertIs(shows(work, 8, price + 1, tree), False)


if __name__ == "__main__":
    unittest.main()
