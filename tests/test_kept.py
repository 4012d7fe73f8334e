"""Promise [15]: lists kept while rows are put and taken."""

import itertools
import random
import unittest

from stretchkeep.errors import NoNumber, TooMany
from stretchkeep.kept import Kept
from stretchkeep.questions import answer
from stretchkeep.stretches import read
from stretchkeep.tables import sorted_by
from tests.things import lists_of
from tests.told import price_by_as_told
from tests.works import some_question

SEVEN = ("ab", ((3, 1), (1, 2), (3, 0), (1, 2), (1, 1), (0, 9), (3, 1)))
ALL = ((), None)
EIGHT_LISTS = ("a", "ab", "abc", "b", "bca", "c", "ca", "cba")


def some_row(chance, columns, top):
    return tuple(chance.randrange(top) for _ in columns)


class Model:
    """The rows that should be there, and how much should be moved, reckoned plainly."""

    def __init__(self, table, choice):
        self.columns, rows = table
        self.choice = choice
        self.there = dict(enumerate(rows))
        self.next = len(rows)
        self.moved = 0

    def put(self, row):
        self.there[self.next] = row
        self.next += 1
        self.moved += len(self.choice)

    def take(self, number):
        del self.there[number]
        self.moved += len(self.choice)

    def sorted_by(self, one):
        places = [self.columns.index(letter) for letter in one]
        return sorted(self.there, key=lambda number: ([self.there[number][at] for at in places], number))

    def table(self):
        return (self.columns, tuple(self.there.values()))


class Watched(unittest.TestCase):
    def looked_at(self, kept, model, questions=()):
        """All that is told now is as it should be."""
        for one in model.choice:
            told = kept.sorted_by(one)
            self.assertIs(type(told), list)
            self.assertEqual(told, model.sorted_by(one))
        self.assertEqual(kept.next_number(), model.next)
        self.assertEqual(kept.moved(), model.moved)
        for question in questions:
            self.asked(kept, model, question)

    def asked(self, kept, model, question):
        told = kept.ask(question)
        self.assertIs(type(told), tuple)
        numbers, one, many = told
        self.assertIs(type(numbers), list)
        table = model.table()
        at = list(model.there)
        self.assertEqual(numbers, [at[place] for place in answer(table, question)])
        prices = {other: price_by_as_told(table, other, question) for other in model.choice}
        if one is None:
            self.assertTrue(all(price > len(at) for price in prices.values()))
            self.assertEqual(many, len(at))
        else:
            self.assertIn(one, model.choice)
            self.assertEqual(prices[one], min([len(at), *prices.values()]))
            self.assertEqual(many, prices[one] - 1)
            self.assertEqual(many, read(table, one, question)[1])


class RowsPutAndTaken(Watched):
    def go(self, chance, columns, choice, begun, turns, top):
        table = (columns, tuple(some_row(chance, columns, top) for _ in range(begun)))
        kept, model = Kept(table, choice), Model(table, choice)
        self.looked_at(kept, model, [ALL])
        for _ in range(turns):
            if model.there and chance.random() < 0.45:
                number = chance.choice(list(model.there))
                self.assertIsNone(kept.take(number))
                model.take(number)
            else:
                row = some_row(chance, columns, top)
                self.assertEqual(kept.put(row), model.next)
                model.put(row)
            questions = [some_question(chance, columns, top) for _ in range(3)]
            self.looked_at(kept, model, [ALL, *questions])

    def test_choices_of_none_to_eight_lists(self):
        chance = random.Random(60)
        for columns in ("a", "mz", "abc", "bcdefg"):
            # Of six columns there are many lists, so not all of them are drawn from.
            lists = [one for one in lists_of(columns) if len(one) <= 3 or chance.random() < 0.01]
            for many in range(9):
                if many <= len(lists):
                    choice = tuple(sorted(chance.sample(lists, many)))
                    for top in (1, 2, 4, 1000):
                        self.go(chance, columns, choice, chance.randrange(9), 12, top)

    def test_taken_in_each_order(self):
        rows = ((1, 0, 2), (0, 2, 1), (1, 0, 2), (2, 1, 0))
        for order in itertools.permutations(range(4)):
            for begun in range(5):
                kept = Kept(("abc", rows[:begun]), EIGHT_LISTS)
                model = Model(("abc", rows[:begun]), EIGHT_LISTS)
                for row in rows[begun:]:
                    self.assertEqual(kept.put(row), model.next)
                    model.put(row)
                    self.looked_at(kept, model)
                for number in order:
                    kept.take(number)
                    model.take(number)
                    self.looked_at(kept, model, [ALL])
                self.assertEqual(kept.next_number(), 4)

    def test_by_hand(self):
        kept = Kept(SEVEN, ("ab", "b"))
        self.assertEqual(kept.sorted_by("ab"), [5, 4, 1, 3, 2, 0, 6])
        self.assertEqual(kept.sorted_by("b"), [2, 0, 4, 6, 1, 3, 5])
        self.assertEqual(kept.put((1, 2)), 7)
        self.assertEqual(kept.sorted_by("ab"), [5, 4, 1, 3, 7, 2, 0, 6])
        self.assertEqual(kept.sorted_by("b"), [2, 0, 4, 6, 1, 3, 7, 5])
        kept.take(3)
        kept.take(5)
        self.assertEqual(kept.sorted_by("ab"), [4, 1, 7, 2, 0, 6])
        self.assertEqual(kept.put((0, 0)), 8)
        self.assertEqual(kept.sorted_by("ab"), [8, 4, 1, 7, 2, 0, 6])
        self.assertEqual(kept.sorted_by("b"), [2, 8, 0, 4, 6, 1, 7])
        self.assertEqual(kept.moved(), 8)

    def test_the_lists_are_those_of_the_rows_that_are_there(self):
        kept = Kept(SEVEN, ("a", "ba"))
        for row in ((2, 2), (3, 0)):
            kept.put(row)
        same = (SEVEN[0], SEVEN[1] + ((2, 2), (3, 0)))
        for one in ("a", "ba"):
            self.assertEqual(kept.sorted_by(one), sorted_by(same, one))

    def test_rows_alike(self):
        kept = Kept(("ab", ((4, 4),) * 5), ("a", "ba"))
        for number in range(5, 9):
            self.assertEqual(kept.put((4, 4)), number)
        kept.take(0)
        kept.take(6)
        for one in ("a", "ba"):
            self.assertEqual(kept.sorted_by(one), [1, 2, 3, 4, 5, 7, 8])
        self.assertEqual(kept.put((4, 4)), 9)
        self.assertEqual(kept.ask(((("a", 4),), None))[0], [1, 2, 3, 4, 5, 7, 8, 9])


class Numbers(Watched):
    def test_a_table_of_seven_rows_goes_on_with_7(self):
        kept = Kept(SEVEN, ())
        self.assertEqual(kept.next_number(), 7)
        self.assertEqual(kept.put((1, 1)), 7)
        self.assertEqual(kept.next_number(), 8)

    def test_no_row_ever(self):
        for choice in ((), ("a",), EIGHT_LISTS):
            kept = Kept(("abc", ()), choice)
            self.assertEqual(kept.next_number(), 0)
            self.assertEqual(kept.put((1, 2, 3)), 0)
            self.assertEqual(kept.next_number(), 1)

    def test_numbers_are_never_used_twice(self):
        kept = Kept(SEVEN, ("a",))
        for number in (6, 5, 0):
            kept.take(number)
            self.assertEqual(kept.next_number(), 7)
        seen = []
        for turn in range(200):
            seen.append(kept.put((turn, 0)))
            kept.take(seen[-1])
        self.assertEqual(seen, list(range(7, 207)))
        for number in (1, 2, 3, 4):
            kept.take(number)
        self.assertEqual(kept.sorted_by("a"), [])
        self.assertEqual(kept.put((1, 1)), 207)
        self.assertEqual(kept.sorted_by("a"), [207])


class Refused(Watched):
    def none_changed(self, kept, model, error, call):
        questions = [ALL, ((("a", 1),), None), ((), ("b", 0, 1))]
        self.looked_at(kept, model, questions)
        with self.assertRaises(error) as caught:
            call()
        self.assertIs(type(caught.exception), error)
        self.looked_at(kept, model, questions)

    def test_the_sixty_first_row(self):
        for begun in (0, 7, 59, 60):
            table = ("ab", tuple((number % 3, number % 5) for number in range(begun)))
            kept, model = Kept(table, ("ab", "b")), Model(table, ("ab", "b"))
            for number in range(begun, 60):
                self.assertEqual(kept.put((number % 3, number % 5)), number)
                model.put((number % 3, number % 5))
            self.none_changed(kept, model, TooMany, lambda: kept.put((1, 1)))
            self.none_changed(kept, model, TooMany, lambda: kept.put((1, 1)))
            kept.take(30)
            model.take(30)
            self.assertEqual(kept.put((2, 2)), 60)
            model.put((2, 2))
            self.none_changed(kept, model, TooMany, lambda: kept.put((0, 0)))

    def test_sixty_at_one_time_not_in_all(self):
        kept, model = Kept(("ab", ()), ("a",)), Model(("ab", ()), ("a",))
        for number in range(150):
            if number >= 60:
                kept.take(number - 60)
                model.take(number - 60)
            self.assertEqual(kept.put((number % 7, 1)), number)
            model.put((number % 7, 1))
        self.none_changed(kept, model, TooMany, lambda: kept.put((1, 1)))

    def test_a_table_somewhat_beyond_sixty(self):
        kept = Kept(("a", ((5,),) * 62), ("a",))
        self.assertEqual(kept.sorted_by("a"), list(range(62)))
        self.assertRaises(TooMany, kept.put, (1,))
        kept.take(0)
        kept.take(1)
        self.assertRaises(TooMany, kept.put, (1,))
        kept.take(2)
        self.assertEqual(kept.put((1,)), 62)

    def test_numbers_that_no_row_has(self):
        kept, model = Kept(SEVEN, ("a", "ba")), Model(SEVEN, ("a", "ba"))
        for number in (0, 3, 6):
            kept.take(number)
            model.take(number)
        model.put((9, 9))
        kept.put((9, 9))
        gone = (0, 3, 6)
        coming = (8, 9, 60, 61, 1000)
        below = (-1, -2, -7, -8)
        far = (10 ** 59, -(10 ** 59), 10 ** 60 - 1, 10 ** 5000, -(10 ** 5000), 2 ** 61 - 1, 2 ** 61 + 3)
        for number in gone + coming + below + far:
            self.none_changed(kept, model, NoNumber, lambda: kept.take(number))
        for number in (1, 7):
            kept.take(number)
            model.take(number)
            self.none_changed(kept, model, NoNumber, lambda: kept.take(number))

    def test_no_rows(self):
        for number in (0, 1, -1, 10 ** 59):
            kept, model = Kept(("ab", ()), ("a",)), Model(("ab", ()), ("a",))
            self.none_changed(kept, model, NoNumber, lambda: kept.take(number))


class Ask(Watched):
    def test_by_hand(self):
        kept = Kept(SEVEN, ("ab", "b"))
        self.assertEqual(kept.ask(((("a", 1),), None)), ([1, 3, 4], "ab", 3))
        self.assertEqual(kept.ask(((("b", 1),), None)), ([0, 4, 6], "b", 3))
        self.assertEqual(kept.ask(((("a", 1), ("b", 2)), None)), ([1, 3], "ab", 2))
        self.assertEqual(kept.ask(((("b", 1),), ("a", 3, 9))), ([0, 6], "ab", 3))
        self.assertEqual(kept.ask(((), ("b", 1, 2))), ([0, 1, 3, 4, 6], "b", 5))
        self.assertEqual(kept.ask(((("a", 7),), None)), ([], "ab", 0))

    def test_no_list_is_cheap(self):
        kept = Kept(SEVEN, ("ab", "b"))
        self.assertEqual(kept.ask(ALL), ([0, 1, 2, 3, 4, 5, 6], None, 7))
        self.assertEqual(Kept(SEVEN, ("b",)).ask(((("a", 3),), None)), ([0, 2, 6], None, 7))
        self.assertEqual(Kept(SEVEN, ("b",)).ask(((), ("b", 0, 9))), ([0, 1, 2, 3, 4, 5, 6], None, 7))

    def test_a_list_that_costs_as_much_as_none(self):
        # Six of the seven rows are read by b: its price is 7, as by no list.
        kept = Kept(SEVEN, ("b",))
        self.assertEqual(kept.ask(((), ("b", 0, 2))), ([0, 1, 2, 3, 4, 6], "b", 6))
        # One row that doesn't fit: 1 by either.
        self.assertEqual(Kept(("a", ((5,),)), ("a",)).ask(((("a", 4),), None)), ([], "a", 0))
        self.assertEqual(Kept(("a", ((5,),)), ("a",)).ask(((("a", 5),), None)), ([0], None, 1))

    def test_an_empty_choice(self):
        kept = Kept(SEVEN, ())
        self.assertEqual(kept.ask(((("a", 1),), None)), ([1, 3, 4], None, 7))
        kept.take(3)
        kept.put((1, 5))
        kept.put((2, 5))
        self.assertEqual(kept.ask(((("a", 1),), None)), ([1, 4, 7], None, 8))
        self.assertEqual(kept.moved(), 0)

    def test_no_rows(self):
        for choice in ((), ("a",), ("a", "ab", "b", "ba")):
            kept = Kept(("ab", ()), choice)
            for question in (ALL, ((("a", 1),), None), ((("a", 1),), ("b", 0, 9))):
                self.assertEqual(kept.ask(question), ([], None, 0))
            kept.put((1, 1))
            kept.take(0)
            self.assertEqual(kept.ask(((("a", 1),), None)), ([], None, 0))

    def test_the_answer_rises_and_has_the_rows_own_numbers(self):
        kept = Kept(("ab", ()), ("ba",))
        for number in range(20):
            kept.put((number % 2, 9 - number % 10))
        for number in range(0, 20, 3):
            kept.take(number)
        there = [number for number in range(20) if number % 3]
        told = kept.ask(((), ("b", 3, 9)))
        self.assertEqual(told[0], [number for number in there if 9 - number % 10 >= 3])
        self.assertEqual(told[1:], ("ba", len(told[0])))

    def test_somewhat_beyond_the_bounds(self):
        kept = Kept(("a", ((5,), (1200,))), ("a",))
        kept.put((1000,))
        self.assertEqual(kept.sorted_by("a"), [0, 2, 1])
        self.assertEqual(kept.ask(((("a", 1000),), None)), ([2], "a", 1))


class Moved(Watched):
    def test_one_for_each_list_and_row(self):
        for choice in ((), ("a",), ("a", "b"), ("a", "ab", "b", "ba")):
            kept = Kept(SEVEN, choice)
            self.assertEqual(kept.moved(), 0)
            kept.put((1, 1))
            self.assertEqual(kept.moved(), len(choice))
            kept.take(7)
            kept.take(0)
            self.assertEqual(kept.moved(), 3 * len(choice))
            kept.ask(ALL)
            for one in choice:
                kept.sorted_by(one)
            self.assertEqual(kept.moved(), 3 * len(choice))


class Owned(Watched):
    def test_told_lists_are_the_askers_own(self):
        kept, model = Kept(SEVEN, ("a", "ba")), Model(SEVEN, ("a", "ba"))
        questions = [ALL, ((("a", 1),), None), ((), ("b", 1, 2))]
        for _ in range(2):
            for one in ("a", "ba"):
                kept.sorted_by(one).clear()
                kept.sorted_by(one).append(99)
            for question in questions:
                kept.ask(question)[0].append(99)
                kept.ask(question)[0].reverse()
            self.looked_at(kept, model, questions)
            kept.put((1, 1))
            model.put((1, 1))

    def test_the_table_is_unchanged(self):
        rows = ((3, 1), (1, 2))
        table = ("ab", rows)
        kept = Kept(table, ("a",))
        kept.put((0, 0))
        kept.take(0)
        self.assertEqual(table, ("ab", ((3, 1), (1, 2))))
        self.assertEqual(Kept(table, ("a",)).sorted_by("a"), [1, 0])

    def test_a_row_that_is_handed_in_is_its_own(self):
        kept = Kept(("ab", ()), ("a",))
        row = [5, 5]
        kept.put(row)
        row[0] = 0
        kept.put((4, 4))
        self.assertEqual(kept.sorted_by("a"), [1, 0])
        self.assertEqual(row, [0, 5])

    def test_two_side_by_side(self):
        one, other = Kept(SEVEN, ("a",)), Kept(SEVEN, ("a",))
        model = Model(SEVEN, ("a",))
        one.put((0, 0))
        one.take(1)
        self.looked_at(other, model, [ALL])
        other.take(2)
        model.take(2)
        self.looked_at(other, model, [ALL])
        self.assertEqual(one.sorted_by("a"), [5, 7, 3, 4, 0, 2, 6])
        self.assertEqual((one.moved(), other.moved()), (2, 1))
        self.assertEqual((one.next_number(), other.next_number()), (8, 7))


if __name__ == "__main__":
    unittest.main()
