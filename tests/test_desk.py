"""Promises [18] and [3]: rows said at a desk, and its answers."""

import random
import unittest

from stretchkeep.cheapest import cheapest
from stretchkeep.desk import Desk
from stretchkeep.errors import NoRow, TooMany
from stretchkeep.prices import price, room
from stretchkeep.questions import answer
from stretchkeep.stairs import stairs
from stretchkeep.tables import is_list, sorted_by
from stretchkeep.texts import question_text
from tests.things import lists_of
from tests.told import Prices
from tests.works import EIGHT, some_question, some_work

FAR = "9" * 5000
# Numbers that are written otherwise, or not at all.
NO_NUMBERS = ("", "00", "01", "+1", "-1", "-0", "1.0", "1e1", "one", "a", "-", "1_0", "0x1", "\t1", "1\n", "1,", "=1", FAR)
NO_QUESTIONS = (
    "", " ", "-  ", " -", "- -", "- a=1", "a=1 -", "a", "a=", "a=1 ", " a=1", "a=1  b=1", "b=1 a=1", "a=1 a=1", "z=1",
    "a=1000", "a=" + FAR, "a=01", "a:2..1", "a:1..2 b=1", "a=1 a:1..2", "A=1", "a=1\n", "a=1\tb=1", "a:1..", "a:0..1000",
)


def desk_of(table, wanted=()):
    """A desk that was told this table, and wants so often these questions."""
    desk = Desk()
    desk.say("table " + table[0])
    for row in table[1]:
        desk.say("row " + " ".join(map(str, row)))
    for question, often in wanted:
        desk.say(f"want {often} {question_text(question)}")
    return desk


def written(numbers):
    return " ".join(map(str, numbers)) or "-"


class Said(unittest.TestCase):
    def told(self, desk, row, text):
        with self.subTest(row=row[:60]):
            said = desk.say(row)
            self.assertIs(type(said), str)
            self.assertEqual(said, text)

    def all_of(self, desk):
        """What the desk tells of all that is there, without any change."""
        told = []
        for row in ("ask -", "list a", "list b", "list ba", "ask a=1", "stairs 6 1", "stairs 6 0", "best 3 1", "best 0 0"):
            try:
                told.append(desk.say(row))
            except NoRow:
                told.append(None)
        return told

    def refused(self, desk, row, error=NoRow):
        """The row is refused, and changes nothing."""
        with self.subTest(row=row[:60]):
            before = self.all_of(desk)
            with self.assertRaises(error) as caught:
                desk.say(row)
            self.assertIs(type(caught.exception), error)
            self.assertEqual(self.all_of(desk), before)


class Answers(Said):
    def test_by_hand(self):
        desk = Desk()
        self.told(desk, "table ab", "ok")
        self.told(desk, "ask -", "-")
        self.told(desk, "list ab", "-")
        self.told(desk, "best 6 0", "0 -")
        self.told(desk, "stairs 6 1000", "0:0")
        for number, row in enumerate(EIGHT[1]):
            self.told(desk, f"row {row[0]} {row[1]}", str(number))
        self.told(desk, "ask a=0", "0 1 2 3")
        self.told(desk, "ask b=2", "2 6")
        self.told(desk, "ask a=1 b:2..999", "6 7")
        self.told(desk, "ask b=0 a:0..1", "0 4")
        self.told(desk, "ask a=5", "-")
        self.told(desk, "ask -", "0 1 2 3 4 5 6 7")
        self.told(desk, "list a", "0 1 2 3 4 5 6 7")
        self.told(desk, "list b", "0 4 1 5 2 6 3 7")
        self.told(desk, "want 1 a=0", "ok")
        self.told(desk, "want 1 b=2", "ok")
        self.told(desk, "want 1 a=1 b=3", "ok")
        self.told(desk, "best 0 1", "24 -")
        self.told(desk, "best 1 1", "16 b")
        self.told(desk, "best 2 1", "15 a b")
        self.told(desk, "best 6 1", "15 a b")
        self.told(desk, "best 6 1000", "24 -")
        self.told(desk, "stairs 0 1", "0:24")
        self.told(desk, "stairs 1 1", "0:24 1:16")
        self.told(desk, "stairs 6 1", "0:24 1:16 2:15")
        self.told(desk, "stairs 6 0", "0:24 1:14 2:11 3:10")
        self.told(desk, "stairs 6 1000", "0:24")
        self.told(desk, "drop b=2", "ok")
        self.told(desk, "best 1 1", "12 a")
        self.told(desk, "take 0", "ok")
        self.told(desk, "ask a=0", "1 2 3")
        self.told(desk, "best 0 1", "14 -")

    def test_rows_keep_their_numbers(self):
        desk = desk_of(("ab", ((5, 0), (4, 1), (3, 2), (2, 3))))
        self.told(desk, "take 1", "ok")
        self.told(desk, "list a", "3 2 0")
        self.told(desk, "ask b:1..3", "2 3")
        self.told(desk, "take 3", "ok")
        self.told(desk, "row 4 0", "4")
        self.told(desk, "list a", "2 4 0")
        self.told(desk, "list b", "0 4 2")
        for number in (0, 2, 4):
            self.told(desk, f"take {number}", "ok")
        self.told(desk, "list a", "-")
        self.told(desk, "ask -", "-")
        self.told(desk, "row 1 1", "5")
        self.told(desk, "ask -", "5")

    def test_numbers_go_on(self):
        desk = desk_of(("a", ()))
        for number in range(130):
            self.told(desk, "row 7", str(number))
            self.told(desk, f"take {number}", "ok")
        self.told(desk, "row 0", "130")
        self.told(desk, "list a", "130")

    def test_a_table_told_anew_begins_anew(self):
        desk = desk_of(EIGHT, [(((("a", 0),), None), 3)])
        desk.say("take 2")
        self.told(desk, "table ab", "ok")
        self.told(desk, "ask -", "-")
        self.told(desk, "stairs 6 0", "0:0")
        self.refused(desk, "take 3")
        self.refused(desk, "drop a=0")
        self.told(desk, "row 1 1", "0")
        self.told(desk, "stairs 6 0", "0:0")
        self.told(desk, "table xyz", "ok")
        self.refused(desk, "row 1 1")
        self.refused(desk, "ask a=0")
        self.told(desk, "row 1 1 1", "0")
        self.told(desk, "list zx", "0")

    def test_want_adds_up(self):
        desk = desk_of(EIGHT)
        self.told(desk, "want 3 a=0", "ok")
        self.told(desk, "best 0 0", "24 -")
        self.told(desk, "want 1000 a=0", "ok")
        self.told(desk, "best 0 0", "8024 -")
        self.told(desk, "best 1 1000", "7015 a")
        self.told(desk, "drop a=0", "ok")
        self.told(desk, "best 0 0", "0 -")
        self.told(desk, "want 1 a=0", "ok")
        self.told(desk, "best 0 0", "8 -")

    def test_the_question_without_letters(self):
        desk = desk_of(EIGHT)
        self.told(desk, "want 2 -", "ok")
        self.told(desk, "best 6 0", "16 -")
        self.told(desk, "want 2 -", "ok")
        self.told(desk, "stairs 6 0", "0:32")
        self.told(desk, "drop -", "ok")
        self.told(desk, "stairs 6 0", "0:0")

    def test_least_and_greatest_numbers(self):
        desk = desk_of(("abcdef", ()))
        self.told(desk, "row 0 999 0 999 0 999", "0")
        self.told(desk, "row 999 0 10 100 1 9", "1")
        self.told(desk, "want 1000 a:0..999", "ok")
        self.told(desk, "want 1 f=999", "ok")
        self.told(desk, "ask a=0 b=999 c=0 d=999 e=0 f=999", "0")
        self.told(desk, "list fedcba", "1 0")

    def test_columns_of_one_to_six_letters(self):
        for columns in ("a", "z", "az", "bcdefg", "uvwxyz"):
            desk = Desk()
            self.told(desk, "table " + columns, "ok")
            self.told(desk, "row" + " 5" * len(columns), "0")
            self.told(desk, "list " + columns[::-1], "0")


class Refused(Said):
    def test_where_no_table_is(self):
        desk = Desk()
        rows = ("row", "row 1", "row 1 1", "take 0", "ask -", "ask a=1", "list a", "want 1 -", "drop -", "best 0 0",
                "stairs 0 0", "", " ", "ok", "table", "tables a", "table ba")
        for row in rows:
            self.refused(desk, row)
        self.told(desk, "table a", "ok")

    def test_words(self):
        desk = desk_of(EIGHT, [(((("a", 0),), None), 3)])
        rows = ("", " ", "  ", "-", "ok", "hello", "Row 1 1", "ROW 1 1", "rows 1 1", "TABLE ab", "Table ab", "ask a=0 ask",
                "\trow 1 1", "row\t1 1", "row 1\t1", "row 1 1\n", "\nask -", "ask\n-", "0", "row,1,1", "put 1 1", "say row 1 1",
                "row 1", "row 1 1 1", "row 1 1000")
        for row in rows:
            self.refused(desk, row)
        # No number was used up by what was refused.
        self.told(desk, "row 1 1", "8")

    def test_words_more_or_fewer(self):
        desk = desk_of(EIGHT, [(((("a", 0),), None), 3)])
        for row in ("table", "row", "take", "ask", "list", "want", "drop", "best", "stairs", "want 1", "best 1", "stairs 1"):
            self.refused(desk, row)
        for row in ("table ab c", "table a b", "row 1", "row 1 1 1", "take 0 1", "list a b", "list a a", "best 1 1 1",
                    "stairs 1 1 1", "ask - -", "drop a=0 -", "want 1 2 a=0", "take 0 0", "best 1 1 -", "table ab -"):
            self.refused(desk, row)

    def test_blanks(self):
        desk = desk_of(EIGHT, [(((("a", 0),), None), 3)])
        for row in ("table ab", "row 1 1", "take 0", "ask a=1 b=1", "ask -", "list a", "want 1 a=0", "drop a=0", "best 1 1",
                    "stairs 1 1"):
            self.refused(desk, " " + row)
            self.refused(desk, row + " ")
            for at, sign in enumerate(row):
                if sign == " ":
                    self.refused(desk, row[:at] + " " + row[at:])

    def test_columns(self):
        desk = desk_of(EIGHT, [(((("a", 0),), None), 3)])
        for columns in ("", "ba", "aa", "abb", "abcdefg", "A", "Ab", "a1", "1", "-", "a,b", "ab\n", "a\tb", "abca"):
            self.refused(desk, "table " + columns)
            self.refused(Desk(), "table " + columns)

    def test_numbers_written_otherwise(self):
        desk = desk_of(EIGHT, [(((("a", 0),), None), 3)])
        for word in NO_NUMBERS:
            self.refused(desk, f"row {word} 1")
            self.refused(desk, f"row 1 {word}")
            self.refused(desk, f"take {word}")
            self.refused(desk, f"want {word} a=0")
            self.refused(desk, f"best {word} 1")
            self.refused(desk, f"best 1 {word}")
            self.refused(desk, f"stairs {word} 1")
            self.refused(desk, f"stairs 1 {word}")

    def test_numbers_out_of_their_bounds(self):
        desk = desk_of(EIGHT, [(((("a", 0),), None), 3)])
        for row in ("row 1000 1", "row 1 1000", "row 1 9999", "want 0 a=0", "want 1001 a=0", "want 0 a=1", "want 1001 a=1",
                    "want 10000 a=0", "best 7 1", "best 10 1", "best 1 1001", "best 1 9999", "stairs 7 1", "stairs 60 1",
                    "stairs 1 1001", "stairs 0 10000"):
            self.refused(desk, row)
        for row in ("best 0 0", "best 6 1000", "stairs 0 0", "stairs 6 1000", "want 1 a=0", "want 1000 a=0"):
            desk.say(row)

    def test_rows_that_are_not_there(self):
        desk = desk_of(EIGHT)
        for number in ("8", "9", "10", "60", "100", FAR, "1" + "0" * 4999):
            self.refused(desk, "take " + number)
        desk.say("take 0")
        desk.say("take 7")
        for number in ("0", "7", "8"):
            self.refused(desk, "take " + number)
        self.refused(desk_of(("ab", ())), "take 0")

    def test_lists(self):
        desk = desk_of(EIGHT)
        for one in ("", "c", "abc", "aa", "aba", "A", "-", "a,b", "0", "ab\n", "a\tb"):
            self.refused(desk, "list " + one)

    def test_questions(self):
        desk = desk_of(EIGHT, [(((("a", 0),), None), 3)])
        for text in NO_QUESTIONS:
            self.refused(desk, "ask " + text)
            self.refused(desk, "want 1 " + text)
            self.refused(desk, "drop " + text)

    def test_questions_that_are_not_wanted(self):
        desk = desk_of(EIGHT, [(((("a", 0),), None), 3)])
        for text in ("-", "a=1", "b=0", "a:0..0", "a=0 b=0"):
            self.refused(desk, "drop " + text)
        desk.say("drop a=0")
        self.refused(desk, "drop a=0")

    def test_best_and_stairs_of_too_many_columns(self):
        for columns in ("abcde", "abcdef"):
            desk = desk_of((columns, ()))
            for row in ("best 0 0", "best 6 1", "stairs 0 0", "stairs 6 1"):
                self.refused(desk, row)
        desk = desk_of(("abcd", ()))
        self.told(desk, "best 0 0", "0 -")
        self.told(desk, "stairs 0 0", "0:0")

    def test_best_and_stairs_of_too_many_rows(self):
        desk = desk_of(("ab", ((1, 2),) * 40), [(((), None), 1)])
        self.told(desk, "best 2 1", "40 -")
        self.told(desk, "stairs 2 1", "0:40")
        desk.say("row 1 1")
        for row in ("best 0 0", "best 2 1", "stairs 0 0", "stairs 2 1"):
            self.refused(desk, row)
        desk.say("take 3")
        self.told(desk, "best 2 1", "40 -")
        self.told(desk, "stairs 2 1", "0:40")


class TooManyAtOnce(Said):
    def test_the_sixty_first_row(self):
        desk = desk_of(("ab", tuple((number, 1) for number in range(60))))
        self.refused(desk, "row 1 1", TooMany)
        desk.say("take 5")
        self.told(desk, "row 1 1", "60")
        self.refused(desk, "row 1 1", TooMany)

    def test_the_sixth_question(self):
        desk = desk_of(EIGHT, [(((("b", number),), None), 2) for number in range(5)])
        self.refused(desk, "want 1 a=0", TooMany)
        self.refused(desk, "want 1 -", TooMany)
        self.told(desk, "want 1 b=4", "ok")
        self.told(desk, "drop b=0", "ok")
        self.told(desk, "want 1 a=0", "ok")
        self.refused(desk, "want 1 b=0", TooMany)

    def test_no_row_goes_first(self):
        rows = tuple((number, 1) for number in range(60))
        desk = desk_of(("ab", rows), [(((("b", number),), None), 2) for number in range(5)])
        for row in ("row 1", "row 1 1 1", "row 1 1000", "row 1 01", "row 1 1 ", "row  1 1", "want 0 a=0", "want 1001 a=0",
                    "want 1 a=1000", "want 1 z=1", "want 1 a=0 ", "want 1", "want a=0", "drop a=0", "take 60"):
            self.refused(desk, row, NoRow)
        self.refused(desk, "row 1 1", TooMany)
        self.refused(desk, "want 1 a=0", TooMany)


class AsTheFunctionsTell(Said):
    def held(self, desk, columns, there, wanted):
        """What the desk tells is what the functions tell of the same table and questions."""
        numbers = list(there)
        table = (columns, tuple(there.values()))
        chance = random.Random(len(numbers))
        for one in chance.sample(lists_of(columns), min(4, len(lists_of(columns)))):
            self.told(desk, "list " + one, written(numbers[place] for place in sorted_by(table, one)))
        for question in [some_question(chance, columns, 4) for _ in range(4)]:
            told = written(numbers[place] for place in answer(table, question))
            self.told(desk, "ask " + question_text(question), told)
        for size, changes in ((0, 0), (2, 1), (6, 1000), (chance.randrange(7), chance.randrange(60))):
            work = (table, tuple(wanted.items()), changes)
            self.best(desk, work, size)
            told = " ".join(f"{step}:{least}" for step, least in stairs(work, size))
            self.told(desk, f"stairs {size} {changes}", told)

    def best(self, desk, work, size):
        least, *lists = desk.say(f"best {size} {work[2]}").split(" ")
        choice = () if lists == ["-"] else tuple(lists)
        self.assertEqual(least, str(cheapest(work, size)[0]))
        self.assertEqual(list(choice), sorted(set(choice)))
        self.assertTrue(all(is_list(work[0][0], one) for one in choice))
        self.assertLessEqual(room(choice), size)
        self.assertEqual(price(work, choice), int(least))
        if len(work[0][0]) < 3:
            self.assertEqual(int(least), Prices(work).least(size))

    def test_rows_and_questions_in_any_order(self):
        chance = random.Random(90)
        for columns in ("a", "bd", "mxz", "abcd"):
            for _ in range(4):
                desk, there, wanted, coming = desk_of((columns, ())), {}, {}, 0
                for turn in range(30):
                    pick = chance.random()
                    question = some_question(chance, columns, 3)
                    if pick < 0.5:
                        row = tuple(chance.randrange(3) for _ in columns)
                        self.told(desk, "row " + " ".join(map(str, row)), str(coming))
                        there[coming] = row
                        coming += 1
                    elif pick < 0.65 and there:
                        number = chance.choice(list(there))
                        self.told(desk, f"take {number}", "ok")
                        del there[number]
                    elif pick < 0.9 and (len(wanted) < 5 or question in wanted):
                        often = chance.choice((1, 7, 1000))
                        self.told(desk, f"want {often} {question_text(question)}", "ok")
                        wanted[question] = wanted.get(question, 0) + often
                    elif wanted:
                        question = chance.choice(list(wanted))
                        self.told(desk, "drop " + question_text(question), "ok")
                        del wanted[question]
                    if turn % 5 == 4:
                        self.held(desk, columns, there, wanted)

    def test_at_the_bounds(self):
        chance = random.Random(91)
        for _ in range(4):
            table, asks, changes = some_work(chance, "abcd", 40, 5)
            wanted = {}
            for question, often in asks:
                wanted[question] = wanted.get(question, 0) + 1 + often % 1000
            self.held(desk_of(table, wanted.items()), "abcd", dict(enumerate(table[1])), wanted)


class SideBySide(Said):
    def test_two_desks(self):
        one, other = Desk(), Desk()
        one.say("table ab")
        self.refused(other, "row 1 1")
        other.say("table ab")
        one.say("row 1 1")
        one.say("want 3 a=1")
        self.told(other, "ask -", "-")
        self.told(other, "row 2 2", "0")
        self.told(other, "best 0 0", "0 -")
        self.refused(other, "drop a=1")
        other.say("table c")
        self.told(one, "ask a=1", "0")
        self.told(one, "best 0 0", "3 -")

    def test_a_row_that_is_asked_again_is_answered_again(self):
        desk = desk_of(EIGHT, [(((("a", 0),), None), 3)])
        self.assertEqual(self.all_of(desk), self.all_of(desk))


if __name__ == "__main__":
    unittest.main()
