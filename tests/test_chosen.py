"""Promise [16]: a cheapest choice kept while questions are asked and left."""

import random
import time
import unittest

from stretchkeep.cheapest import cheapest
from stretchkeep.chosen import Chosen
from stretchkeep.errors import NoQuestion, TooMany
from stretchkeep.tables import is_list
from tests.told import Prices, price_as_told
from tests.works import A_IS_0, A_IS_1_B_IS_3, B_IS_2, EIGHT, some_question, some_work

SOON = 20
ALL = ((), None)
SIX = tuple(((("a", number),), None) for number in range(6))


def told_by(chosen):
    return (chosen.asks(), chosen.choice(), chosen.price(), chosen.made())


class Watched(unittest.TestCase):
    def right(self, chosen, work, room, ahead, made, least):
        """All that is told is as it should be, where the choice ahead and what was made till then are these."""
        asks, choice, price, made_now = told_by(chosen)
        self.assertIs(type(asks), tuple)
        self.assertEqual(asks, work[1])
        for ask in asks:
            self.assertIs(type(ask), tuple)
        self.assertIs(type(choice), tuple)
        self.assertEqual(list(choice), sorted(set(choice)))
        for one in choice:
            self.assertTrue(is_list(work[0][0], one))
        self.assertLessEqual(sum(len(one) for one in choice), room)
        self.assertEqual(price, least)
        self.assertEqual(price_as_told(work, choice), least)
        if price_as_told(work, ahead) == least:
            self.assertEqual(choice, ahead)
        self.assertEqual(made_now, made + len(set(choice) - set(ahead)))
        return choice, made_now

    def refused(self, chosen, error, call):
        before = told_by(chosen)
        with self.assertRaises(error) as caught:
            call()
        self.assertIs(type(caught.exception), error)
        self.assertEqual(told_by(chosen), before)


class ByHand(Watched):
    def test_at_first(self):
        for room in range(7):
            for changes in (0, 1, 1000000):
                for table in (EIGHT, ("abcd", ()), ("z", ((1,),))):
                    self.assertEqual(told_by(Chosen(table, changes, room)), ((), (), 0, 0))

    def test_step_by_step(self):
        chosen = Chosen(EIGHT, 1, 2)
        self.assertIsNone(chosen.ask(A_IS_0, 1))
        self.assertEqual(told_by(chosen), (((A_IS_0, 1),), ("a",), 7, 1))
        chosen.ask(B_IS_2, 1)
        self.assertEqual(told_by(chosen), (((A_IS_0, 1), (B_IS_2, 1)), ("a", "b"), 12, 2))
        self.assertIsNone(chosen.leave(A_IS_0))
        self.assertEqual(told_by(chosen), (((B_IS_2, 1),), ("b",), 5, 2))
        chosen.ask(A_IS_0, 1)
        self.assertEqual(told_by(chosen), (((B_IS_2, 1), (A_IS_0, 1)), ("a", "b"), 12, 3))
        chosen.leave(B_IS_2)
        self.assertEqual(told_by(chosen), (((A_IS_0, 1),), ("a",), 7, 3))
        chosen.leave(A_IS_0)
        self.assertEqual(told_by(chosen), ((), (), 0, 3))

    def test_made_though_nobody_looked(self):
        chosen = Chosen(EIGHT, 1, 2)
        for question in (A_IS_0, B_IS_2):
            chosen.ask(question, 1)
        chosen.leave(A_IS_0)
        chosen.ask(A_IS_0, 1)
        chosen.leave(B_IS_2)
        chosen.leave(A_IS_0)
        self.assertEqual(chosen.made(), 3)
        self.assertEqual(told_by(chosen), ((), (), 0, 3))

    def test_in_a_room_for_one(self):
        # Each question has a list of its own that is best, so each time another one is made.
        chosen = Chosen(EIGHT, 1, 1)
        chosen.ask(A_IS_0, 2)
        chosen.ask(B_IS_2, 2)
        self.assertEqual(told_by(chosen)[1:], (("b",), 24, 2))
        chosen.ask(A_IS_0, 10)
        self.assertEqual(chosen.asks(), ((A_IS_0, 12), (B_IS_2, 2)))
        self.assertEqual(told_by(chosen)[1:], (("a",), 78, 3))

    def test_room_0(self):
        chosen = Chosen(EIGHT, 0, 0)
        for many, question in enumerate((A_IS_0, B_IS_2, A_IS_1_B_IS_3, ALL), start=1):
            chosen.ask(question, 1000)
            self.assertEqual(told_by(chosen)[1:], ((), 8000 * many, 0))

    def test_dear_changes(self):
        chosen = Chosen(EIGHT, 1000000, 6)
        chosen.ask(A_IS_0, 1000)
        self.assertEqual(told_by(chosen)[1:], ((), 8000, 0))

    def test_it_stays_where_its_price_is_the_least_still(self):
        # Without changes no list is too dear, so behind the last question the choice is still a cheapest one.
        chosen = Chosen(EIGHT, 0, 6)
        chosen.ask(A_IS_0, 1)
        chosen.ask(B_IS_2, 1)
        choice, made = chosen.choice(), chosen.made()
        self.assertEqual(chosen.price(), 8)
        self.assertGreaterEqual(made, 2)
        for question in (A_IS_0, B_IS_2):
            chosen.leave(question)
            self.assertEqual((chosen.choice(), chosen.made()), (choice, made))
        self.assertEqual(chosen.price(), 0)
        for question in (B_IS_2, A_IS_0):
            chosen.ask(question, 3)
            self.assertEqual((chosen.choice(), chosen.made()), (choice, made))

    def test_it_stays_beside_another_one_of_the_same_price(self):
        # The columns are alike, so by a and by b questions of both letters have the same prices.
        table = ("ab", tuple((number, number) for number in range(10)))
        for first, other in ("ab", "ba"):
            chosen = Chosen(table, 1, 1)
            chosen.ask((((first, 1),), None), 1)
            self.assertEqual(told_by(chosen)[1:], ((first,), 4, 1))
            chosen.ask((((other, 1),), None), 1)
            self.assertEqual(told_by(chosen)[1:], ((first,), 14, 1))
            chosen.ask((((other, 1),), None), 1)
            self.assertEqual(told_by(chosen)[1:], ((other,), 16, 2))
            chosen.ask((((first, 1),), None), 1)
            self.assertEqual(told_by(chosen)[1:], ((other,), 26, 2))


class Asks(Watched):
    def test_asked_again(self):
        chosen = Chosen(EIGHT, 1, 2)
        chosen.ask(A_IS_0, 1)
        chosen.ask(B_IS_2, 1000)
        chosen.ask(A_IS_0, 41)
        self.assertEqual(chosen.asks(), ((A_IS_0, 42), (B_IS_2, 1000)))

    def test_beyond_a_million(self):
        chosen = Chosen(EIGHT, 3, 1)
        for _ in range(1001):
            chosen.ask(A_IS_0, 1000)
        self.assertEqual(chosen.asks(), ((A_IS_0, 1001000),))
        self.assertEqual(told_by(chosen)[1:], (("a",), 5 * 1001000 + 6, 1))

    def test_left_and_asked_again_is_last(self):
        chosen = Chosen(EIGHT, 1, 2)
        for question in (A_IS_0, B_IS_2, ALL):
            chosen.ask(question, 7)
        chosen.leave(A_IS_0)
        self.assertEqual(chosen.asks(), ((B_IS_2, 7), (ALL, 7)))
        chosen.ask(A_IS_0, 2)
        self.assertEqual(chosen.asks(), ((B_IS_2, 7), (ALL, 7), (A_IS_0, 2)))

    def test_unlike_questions_for_the_same_rows(self):
        chosen = Chosen(EIGHT, 1, 2)
        chosen.ask(((("a", 1),), None), 1)
        chosen.ask(((), ("a", 1, 1)), 1)
        chosen.ask(((), ("a", 1, 5)), 1)
        self.assertEqual(len(chosen.asks()), 3)

    def test_the_sixth_question(self):
        chosen = Chosen(EIGHT, 1, 3)
        for question in SIX[:5]:
            chosen.ask(question, 2)
        self.refused(chosen, TooMany, lambda: chosen.ask(SIX[5], 1))
        self.refused(chosen, TooMany, lambda: chosen.ask(ALL, 1000))
        for question in SIX[:5]:
            chosen.ask(question, 1)
        self.assertEqual(chosen.asks(), tuple((question, 3) for question in SIX[:5]))
        chosen.leave(SIX[1])
        chosen.ask(SIX[5], 1)
        self.assertEqual([question for question, often in chosen.asks()], [SIX[0], *SIX[2:]])
        self.refused(chosen, TooMany, lambda: chosen.ask(SIX[1], 1))
        self.refused(chosen, NoQuestion, lambda: chosen.leave(SIX[1]))

    def test_a_question_that_is_not_asked(self):
        chosen = Chosen(EIGHT, 1, 2)
        for question in (A_IS_0, ALL):
            self.refused(chosen, NoQuestion, lambda: chosen.leave(question))
        chosen.ask(A_IS_0, 1)
        for question in (B_IS_2, ALL, ((("a", 1),), None), ((), ("a", 0, 0)), A_IS_1_B_IS_3):
            self.refused(chosen, NoQuestion, lambda: chosen.leave(question))
        chosen.leave(A_IS_0)
        self.refused(chosen, NoQuestion, lambda: chosen.leave(A_IS_0))


class InAnyOrder(Watched):
    def go(self, chance, table, changes, room, turns, least_of):
        """Ask and leave in some order, and look behind each."""
        top = 1 + max([number for row in table[1] for number in row], default=1)
        questions = [some_question(chance, table[0], top) for _ in range(7)]
        chosen = Chosen(table, changes, room)
        asked, ahead, made = {}, (), 0
        for _ in range(turns):
            question = chance.choice(questions)
            often = chance.choice((1, 2, 30, 1000))
            if chance.random() < 0.4:
                if question not in asked:
                    self.refused(chosen, NoQuestion, lambda: chosen.leave(question))
                    continue
                chosen.leave(question)
                del asked[question]
            elif question not in asked and len(asked) == 5:
                self.refused(chosen, TooMany, lambda: chosen.ask(question, often))
                continue
            else:
                chosen.ask(question, often)
                asked[question] = asked.get(question, 0) + often
            work = (table, tuple(asked.items()), changes)
            ahead, made = self.right(chosen, work, room, ahead, made, least_of(work, room))

    def test_against_all_choices_of_small_tables(self):
        chance = random.Random(70)
        for room in range(7):
            for changes in (0, 1, 40, 1000000):
                for columns in ("a", "bd", "mxz"):
                    table = some_work(chance, columns, chance.randrange(13), 0)[0]
                    self.go(chance, table, changes, room, 9, lambda work, room: Prices(work).least(room))

    def test_against_cheapest(self):
        chance = random.Random(71)
        for room in range(7):
            for changes in (0, 1, 25, 3000, 1000000):
                table = some_work(chance, "abcd", 40, 0)[0]
                self.go(chance, table, changes, room, 14, lambda work, room: cheapest(work, room)[0])

    def test_looked_at_or_not(self):
        chance = random.Random(72)
        for room in range(1, 7):
            table = some_work(chance, "abc", 20, 0)[0]
            questions = [some_question(chance, "abc", 3) for _ in range(5)]
            seen, unseen = Chosen(table, 3, room), Chosen(table, 3, room)
            for turn in range(30):
                question = chance.choice(questions)
                asked = dict(seen.asks())
                for chosen in (seen, unseen):
                    if question in asked and turn % 2:
                        chosen.leave(question)
                    else:
                        chosen.ask(question, turn + 1)
                told_by(seen)
            # More lists were made than are there now, so some were made where nobody looked.
            self.assertGreater(seen.made(), len(seen.choice()))
            self.assertEqual(told_by(unseen), told_by(seen))

    def test_soon_at_the_bounds(self):
        chance = random.Random(73)
        begun = time.perf_counter()
        for _ in range(10):
            table, asks, changes = some_work(chance, "abcd", 40, 5)
            chosen = Chosen(table, chance.choice((0, 1, 30)), 6)
            for question, often in asks:
                chosen.ask(question, 1 + often % 1000)
        self.assertLess(time.perf_counter() - begun, SOON)


class Owned(Watched):
    def test_two_side_by_side(self):
        one, other = Chosen(EIGHT, 1, 2), Chosen(EIGHT, 1, 2)
        one.ask(A_IS_0, 5)
        self.assertEqual(told_by(other), ((), (), 0, 0))
        self.refused(other, NoQuestion, lambda: other.leave(A_IS_0))
        other.ask(B_IS_2, 1)
        self.assertEqual(told_by(other), (((B_IS_2, 1),), ("b",), 5, 1))
        self.assertEqual(told_by(one), (((A_IS_0, 5),), ("a",), 27, 1))

    def test_what_was_told_stays_as_it_was(self):
        chosen = Chosen(EIGHT, 1, 2)
        chosen.ask(A_IS_0, 1)
        asks, choice = chosen.asks(), chosen.choice()
        chosen.ask(A_IS_0, 1)
        chosen.ask(B_IS_2, 1)
        self.assertEqual((asks, choice), (((A_IS_0, 1),), ("a",)))

    def test_somewhat_beyond_the_bounds(self):
        rows = tuple((number % 5, number % 2, number % 3, 0, number % 7) for number in range(50))
        chosen = Chosen(("abcde", rows), 2000000, 8)
        chosen.ask(((("e", 1),), ("a", 0, 1)), 2000000)
        work = (("abcde", rows), chosen.asks(), 2000000)
        self.assertEqual(chosen.price(), price_as_told(work, chosen.choice()))
        self.assertEqual(chosen.price(), cheapest(work, 8)[0])


if __name__ == "__main__":
    unittest.main()
