"""Promise [11]: of anything, whether it is a tree that shows a number."""

import random
import unittest

from stretchkeep.cheapest import cheapest, shows
from tests.things import anything, lists_of, nested
from tests.told import Prices
from tests.works import A_IS_0, A_IS_1_B_IS_3, B_IS_2, EIGHT, THREE, great_works, small_works

OVER = ("over",)
DEAR = ("dear",)
FAR = 10 ** 60 - 1
# By a the price of this ask is 5, as by ab; by b and by ba it is 9, by no list 8.
ONE = (EIGHT, ((A_IS_0, 1),), 2)


def fork(one, within, without):
    return ("list", one, within, without)


class ByHand(unittest.TestCase):
    def floor(self, work, room, tree, number):
        """The tree shows this number, each lesser one and no greater one."""
        with self.subTest(room=room, tree=tree):
            for lesser in (number, number - 1, 0, -1, -FAR):
                if lesser <= number:
                    self.assertIs(shows(work, room, lesser, tree), True)
            for greater in (number + 1, number + 2, number + 1000, FAR):
                self.assertIs(shows(work, room, greater, tree), False)

    def all_numbers(self, work, room, tree, truth):
        with self.subTest(room=room, tree=tree):
            for number in (-FAR, -1, 0, 1, 20, FAR):
                self.assertIs(shows(work, room, number, tree), truth)

    def test_dear_at_the_floor(self):
        for room, number in enumerate((24, 11, 10, 10, 10, 10, 10)):
            self.floor(THREE, room, DEAR, number)

    def test_over(self):
        for room in range(7):
            self.all_numbers(THREE, room, OVER, False)
        for room, truth in ((0, True), (1, True), (2, False), (3, False)):
            tree = fork("ab", OVER, DEAR)
            self.assertIs(shows(THREE, room, 10, tree), truth)
            self.assertIs(shows(THREE, room, 10, fork("ab", DEAR, OVER)), False)

    def test_over_by_several_lists(self):
        tree = fork("a", fork("b", OVER, DEAR), DEAR)
        self.assertIs(shows(THREE, 1, 11, tree), True)
        self.assertIs(shows(THREE, 2, 10, tree), False)
        deep = fork("a", fork("b", fork("ab", OVER, DEAR), DEAR), DEAR)
        self.assertIs(shows(THREE, 3, 10, deep), True)
        self.assertIs(shows(THREE, 4, 10, deep), False)

    def test_dear_where_the_lists_in_are_over(self):
        # With ab in, 5 + 8 + 2 for the asks and 3 for the changes; without it the floor is 11.
        self.floor(THREE, 1, fork("ab", DEAR, DEAR), 11)
        self.floor(THREE, 0, fork("ab", DEAR, DEAR), 18)
        self.floor(THREE, 0, fork("ab", fork("ba", DEAR, DEAR), DEAR), 16)

    def test_with_and_without_a_list(self):
        # With b in no letter is left: 8 + 3 + 3 and 2. Without b: 5 + 8 + 5 by a.
        self.floor(THREE, 1, fork("b", DEAR, DEAR), 16)
        # With a in: 5 + 8 + 5 and 2. Without a: 8 + 3 + 3 by b.
        self.floor(THREE, 1, fork("a", DEAR, DEAR), 14)
        self.floor(THREE, 1, fork("a", DEAR, fork("b", DEAR, DEAR)), 16)
        self.all_numbers(THREE, 1, fork("a", OVER, DEAR), False)

    def test_the_room_left_beside_the_lists_in(self):
        # With a in one letter is left: b may come, ba may not, but in room 3 it may. Without a: by ba 3 and 2, by ab 5.
        self.floor(THREE, 2, fork("a", DEAR, DEAR), 10)
        self.floor((EIGHT, THREE[1], 100), 2, fork("a", DEAR, DEAR), 10)
        self.floor((EIGHT, THREE[1], 0), 2, fork("a", DEAR, fork("ab", DEAR, DEAR)), 11)
        self.floor((EIGHT, THREE[1], 0), 3, fork("a", DEAR, fork("ab", DEAR, DEAR)), 10)

    def test_what_is_outdone_is_out(self):
        # Without a all lists are out, so the price is that by no list.
        for room in (1, 2, 6):
            self.floor(ONE, room, fork("a", DEAR, DEAR), 8)
        self.floor((EIGHT, ONE[1], 1), 2, fork("a", DEAR, DEAR), 7)
        # Without b, ba is out, too, but neither a nor ab.
        self.floor(ONE, 2, fork("b", DEAR, DEAR), 5)
        self.floor(ONE, 2, fork("b", DEAR, fork("ab", DEAR, DEAR)), 5)
        # Without ab, a is not out, since it has fewer letters.
        self.floor(ONE, 2, fork("ab", DEAR, DEAR), 5)

    def test_lists_that_outdo_each_other(self):
        work = (EIGHT, ((A_IS_1_B_IS_3, 10),), 1)
        self.floor(work, 2, fork("ab", DEAR, DEAR), 23)
        self.floor(work, 2, fork("ba", DEAR, DEAR), 23)
        self.floor(work, 2, fork("ba", DEAR, fork("b", DEAR, DEAR)), 23)
        self.all_numbers(work, 2, fork("ba", DEAR, fork("ab", DEAR, DEAR)), False)

    def test_prices_above_that_by_no_list_count(self):
        # By a 8 and 9, by b 9 and 3, by no list 8 and 8: were 9 no more than 8 here, b would outdo a.
        table = ("ab", ((0, 0), (0, 1), (0, 2), (0, 3), (0, 0), (0, 1), (0, 2), (1, 3)))
        work = (table, ((A_IS_0, 1), (B_IS_2, 1)), 0)
        self.floor(work, 1, fork("b", DEAR, fork("a", DEAR, DEAR)), 11)
        # Where b=2 is asked alone, b outdoes a.
        self.all_numbers((table, ((B_IS_2, 1),), 0), 1, fork("b", DEAR, fork("a", DEAR, DEAR)), False)

    def test_outdone_by_prices_alike(self):
        # By a 5 and 5, by b 5 and 2, by no list 4 and 4: so b outdoes a.
        table = ("ab", ((0, 1), (0, 2), (0, 3), (0, 4)))
        work = (table, ((A_IS_0, 1), (((("b", 1),), None), 1)), 0)
        self.all_numbers(work, 1, fork("b", DEAR, fork("a", DEAR, DEAR)), False)
        self.floor(work, 1, fork("a", DEAR, fork("b", DEAR, DEAR)), 6)

    def test_a_list_in_is_not_put_out(self):
        # With ab in and without a: what a outdoes is out, but ab stays in: 5 and 6.
        self.floor(ONE, 3, fork("ab", fork("a", DEAR, DEAR), fork("a", DEAR, DEAR)), 8)
        self.floor((EIGHT, ONE[1], 1), 3, fork("ab", fork("a", DEAR, DEAR), fork("a", DEAR, DEAR)), 7)

    def test_a_list_met_twice(self):
        self.all_numbers(THREE, 2, fork("a", fork("a", DEAR, DEAR), DEAR), False)
        self.all_numbers(THREE, 2, fork("a", DEAR, fork("a", DEAR, DEAR)), False)
        self.all_numbers(THREE, 2, fork("a", fork("b", fork("a", DEAR, DEAR), DEAR), DEAR), False)
        self.all_numbers(THREE, 2, fork("a", DEAR, fork("b", DEAR, fork("a", DEAR, DEAR))), False)
        self.all_numbers(THREE, 2, fork("a", DEAR, fork("b", fork("a", DEAR, DEAR), DEAR)), False)

    def test_a_list_outdone_ahead(self):
        for one in ("ab", "b", "ba"):
            self.all_numbers(ONE, 6, fork("a", DEAR, fork(one, DEAR, DEAR)), False)
            self.assertIs(shows(ONE, 6, 5, fork("a", fork(one, DEAR, DEAR), DEAR)), True)

    def test_without_asks_fewer_letters_outdo(self):
        work = (EIGHT, (), 3)
        self.floor(work, 4, fork("a", DEAR, DEAR), 0)
        self.all_numbers(work, 4, fork("a", DEAR, fork("b", DEAR, DEAR)), False)
        self.assertIs(shows(work, 4, 0, fork("ab", DEAR, fork("b", DEAR, DEAR))), True)
        self.all_numbers(work, 4, fork("ab", DEAR, fork("ba", DEAR, DEAR)), False)

    def test_no_list_of_the_columns(self):
        wrong = ["c", "", "aa", "aba", "abc", "A", " a", "a ", "z", "-", None, True, 0, 1, ("a",), ["a"], (), [], [[]]]
        for one in wrong + [("a", "b"), FAR, DEAR, "list", "dear", nested(list, 97, "a"), nested(tuple, 97, "a")]:
            self.all_numbers(THREE, 2, fork(one, DEAR, DEAR), False)
            self.all_numbers(THREE, 0, fork("a", fork(one, OVER, OVER), DEAR), False)

    def test_a_wrong_branch(self):
        wrong = [None, True, 0, "dear", "over", (), [], ("dear", "dear"), ["dear"], "", ("Dear",), ("a",)]
        wrong.append(fork("b", 0, 0))
        for branch in wrong:
            self.all_numbers(THREE, 2, fork("a", branch, DEAR), False)
            self.all_numbers(THREE, 2, fork("a", DEAR, branch), False)
            self.all_numbers(THREE, 2, fork("a", branch, branch), False)
            self.all_numbers(THREE, 2, fork("a", DEAR, fork("b", DEAR, branch)), False)

    def test_parts_exchanged_more_or_fewer(self):
        for tree in (("a", "list", DEAR, DEAR), ("list", DEAR, "a", DEAR), ("list", DEAR, DEAR, "a"), (DEAR, DEAR, "a"),
                     ("list",), ("list", "a"), ("list", "a", DEAR), ("list", "a", DEAR, DEAR, DEAR), (),
                     ("list", "a", DEAR, DEAR, None), ("list", "a", (DEAR, DEAR)), ("dear", "over"), ("over", "over"),
                     ("dear", None), ("over", 0), ("dear", ()), (DEAR,), (OVER,), ("dear", "a", DEAR, DEAR),
                     ("over", "a", DEAR, DEAR), ("List", "a", DEAR, DEAR), ("list ", "a", DEAR, DEAR),
                     (fork("a", DEAR, DEAR),), (["list"], "a", DEAR, DEAR), (None, "a", DEAR, DEAR)):
            self.all_numbers(THREE, 2, tree, False)

    def test_lists_for_tuples(self):
        for tree in (["dear"], ["over"], ["list", "a", DEAR, DEAR], ("list", "a", ["dear"], DEAR),
                     ("list", "a", DEAR, ["dear"]), ("list", ["a"], DEAR, DEAR), [DEAR], (["dear"],)):
            self.all_numbers(THREE, 2, tree, False)
            self.all_numbers(THREE, 0, tree, False)
        # Where the tuple ("over",) shows each number.
        for branch in (["over"], "over", ("over", "over"), ("over", None), (["over"],), [("over",)], (("over",),)):
            self.all_numbers(THREE, 1, fork("ab", branch, DEAR), False)

    def test_of_anything(self):
        for thing in anything() + ["dear", "over", "list", ("DEAR",), ("dear ",), ("",), ("OVER",), ("list",)]:
            for number in (0, -FAR, FAR):
                self.assertIs(shows(THREE, 2, number, thing), False)
                self.assertIs(shows(ONE, 0, number, fork("a", OVER, thing)), False)

    def test_a_hundred_deep(self):
        for inner in (DEAR, OVER, "dear", "a", 1, None):
            for kind in (tuple, list):
                self.all_numbers(THREE, 2, nested(kind, 99, inner), False)
        tree = DEAR
        for turn in range(99):
            tree = fork(("a", "b", "ab", "ba")[turn % 4], tree, DEAR)
        self.all_numbers(THREE, 6, tree, False)

    def test_a_tree_of_all_lists(self):
        # Four columns have 64 lists: as deep as any tree that shows something.
        lists = lists_of("abcd")[::-1]
        rows = tuple((number % 2, number % 3, number % 5, number % 7) for number in range(40))
        work = (("abcd", rows), ((((("a", 1), ("b", 1), ("c", 1), ("d", 1)), None), 1),), 0)
        tree = DEAR
        for one in ("a", "b", "c", "d"):
            tree = fork(one, DEAR, tree)
        prices = Prices(work)
        for room in (0, 1, 6):
            for number in range(0, 42):
                self.assertIs(shows(work, room, number, tree), prices.shows(room, number, tree))
        chain = DEAR
        for one in lists:
            chain = fork(one, chain, DEAR)
        for room in (0, 6):
            for number in (-1, 0, 1, 2, 40):
                self.assertIs(shows(work, room, number, chain), prices.shows(room, number, chain))


def some_tree(chance, lists, depth):
    """A tree of some of the lists, perhaps one that shows nothing."""
    if depth == 0 or chance.random() < 0.25:
        return chance.choice((DEAR, DEAR, DEAR, OVER))
    return fork(chance.choice(lists), some_tree(chance, lists, depth - 1), some_tree(chance, lists, depth - 1))


def changed(chance, tree, lists):
    """The tree with one of its places changed."""
    if len(tree) == 1 or chance.random() < 0.2:
        return some_tree(chance, lists, 1)
    word, one, within, without = tree
    pick = chance.randrange(3)
    if pick == 0:
        return fork(chance.choice(lists), within, without)
    if pick == 1:
        return fork(one, changed(chance, within, lists), without)
    return fork(one, within, changed(chance, without, lists))


class AsTold(unittest.TestCase):
    def held(self, work, room, tree, number):
        prices = Prices(work)
        for near in (number - 1, number, number + 1, number // 2):
            self.assertIs(shows(work, room, near, tree), prices.shows(room, near, tree), (work, room, near, tree))

    def test_some_trees(self):
        chance = random.Random(30)
        for work in small_works(30, 250):
            room = chance.randrange(5)
            tree = some_tree(chance, lists_of(work[0][0]), 3)
            floors = Prices(work)
            self.held(work, room, tree, floors.floor(room, (), ()))
            self.held(work, room, tree, floors.price(()))

    def test_told_trees_changed(self):
        chance = random.Random(31)
        for work in small_works(31, 100) + great_works(31, 4):
            room = chance.randrange(7)
            price, choice, tree = cheapest(work, room)
            for _ in range(2):
                self.held(work, room, changed(chance, tree, lists_of(work[0][0])), price)

    def test_nothing_above_the_least_price_is_shown(self):
        chance = random.Random(32)
        for work in small_works(32, 150):
            room = chance.randrange(5)
            least = Prices(work).least(room)
            for depth in (1, 2, 4):
                tree = some_tree(chance, lists_of(work[0][0]), depth)
                self.assertIs(shows(work, room, least + 1, tree), False)


if __name__ == "__main__":
    unittest.main()
