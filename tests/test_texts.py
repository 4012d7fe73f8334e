"""Promise [17]: questions written as texts, and read from them."""

import itertools
import random
import unittest

from stretchkeep.errors import NoText
from stretchkeep.questions import is_question
from stretchkeep.texts import question_text, read_question
from tests.works import some_question

WRITTEN = (
    (((), None), "-"),
    (((("a", 3), ("c", 0)), ("b", 2, 9)), "a=3 c=0 b:2..9"),
    (((("a", 0),), None), "a=0"),
    (((("a", 999),), None), "a=999"),
    (((("a", 1), ("b", 20), ("c", 300)), None), "a=1 b=20 c=300"),
    (((), ("b", 0, 999)), "b:0..999"),
    (((), ("c", 7, 7)), "c:7..7"),
    (((("b", 10),), ("a", 9, 10)), "b=10 a:9..10"),
    (((("b", 10), ("c", 100)), ("a", 0, 0)), "b=10 c=100 a:0..0"),
)
# Words that are none, whatever stands beside them, in columns abc.
NO_WORDS = (
    "", "-", "--", "a", "b", "=", ":", "..", "3", "0", "None", "a=", "=3", "a3", "a-3", "a=b", "aa=3", "ab=3", "a==3",
    "a=_3", "a=3,", "a=3.", "a=3.0", "a=3..9", "a:3", "a:3..", "a:..3", "a:..", "a:", "a:3.9", "a:3...9",
    "a:3..9..12", "a:3..9.", "a:.3..9", "a:3:9", "a=:3..9", "a:=3", ":3..9", "ab:3..9", "a;3..9", "a:3-9", "a:3,9",
    "a=00", "a=01", "a=007", "a=010", "a:00..3", "a:1..03", "a:01..3", "a:0..00",
    "a=+3", "a=-3", "a=-0", "a=+0", "a:-1..3", "a:+1..3", "a:1..+3", "a:-3..-1", "a=1e2", "a=0x1", "a=1_0", "a=_1",
    "a=1000", "a=1001", "a=9999", "a=10000", "a:0..1000", "a:1000..1000", "a:1000..2000", "a:5..1234",
    "a=" + "9" * 5000, "a:0.." + "9" * 5000, "a:" + "1" * 5000 + ".." + "9" * 5000, "a=" + "0" * 5000,
    "a:3..2", "a:999..0", "a:1..0", "a:10..9", "a:100..99",
    "d=3", "z=3", "d:3..9", "z:0..0", "A=3", "B=3", "C:3..9", "A:3..9", "1=3", "-=3", "==3", "_=1", "~=1", "d:1..1",
    "\t", "\n", "a=3\n", "a=3\t", "\na=3", "\ta=3", "a\n=3", "a=\n3", "a=\t3", "a=3\nb=4", "a=3\tb=4", "a:3..9\n",
    "a:\t3..9", "a:3..\n9", "-\n", "\n-", "-\t", "a=3-", "-a=3", "a=3b=4", "a=3,b=4", "a=3;b=4", "[a=3]", "\"a=3\"", "'",
)


class Texts(unittest.TestCase):
    def refused(self, columns, text, number):
        with self.subTest(text=text[:60]):
            with self.assertRaises(NoText) as caught:
                read_question(columns, text)
            self.assertIs(type(caught.exception), NoText)
            self.assertIs(type(caught.exception.number), int)
            self.assertEqual(caught.exception.number, number)

    def there_and_back(self, columns, question):
        text = question_text(question)
        self.assertIs(type(text), str)
        told = read_question(columns, text)
        self.assertEqual(told, question)
        self.assertIs(is_question(columns, told), True)


class Written(Texts):
    def test_by_hand(self):
        for question, text in WRITTEN:
            self.assertEqual(question_text(question), text)
            self.assertEqual(read_question("abc", text), question)
            self.assertEqual(read_question("abcdef", text), question)

    def test_there_and_back(self):
        chance = random.Random(80)
        for columns in ("a", "bz", "abc", "bdfh", "uvwxyz", "abcdef"):
            for top in (1, 10, 1000):
                for _ in range(60):
                    self.there_and_back(columns, some_question(chance, columns, top))

    def test_every_mix_of_letters(self):
        for picks in itertools.product((None, 0, 12, 999), repeat=4):
            equals = tuple((letter, pick) for letter, pick in zip("ackz", picks) if pick is not None)
            self.there_and_back("ackz", (equals, None))
            for letter, pick in zip("ackz", picks):
                if pick is None:
                    self.there_and_back("ackz", (equals, (letter, 0, 999)))
                    self.there_and_back("ackz", (equals, (letter, 45, 45)))

    def test_each_number(self):
        for number in range(1000):
            self.there_and_back("k", ((("k", number),), None))
            self.there_and_back("k", ((), ("k", number, 999)))
            self.there_and_back("k", ((), ("k", 0, number)))
            self.assertEqual(question_text(((("k", number),), None)), "k=" + str(number))

    def test_kinds_of_what_is_read(self):
        equals, reach = read_question("abc", "a=1 b=2 c:3..4")
        self.assertIs(type(equals), tuple)
        self.assertEqual([type(part) for part in equals], [tuple, tuple])
        self.assertIs(type(reach), tuple)
        self.assertIs(type(reach[1]), int)
        self.assertEqual(read_question("abc", "-"), ((), None))


class Refused(Texts):
    def test_a_text_without_signs(self):
        for columns in ("a", "abc", "abcdef"):
            self.refused(columns, "", 0)

    def test_each_wrong_word_at_each_place(self):
        for word in NO_WORDS:
            if word != "-":
                self.refused("abc", word, 0)
            # With letters that the wrong word hasn't, where it has one.
            self.refused("abc", word + " b=1", 0)
            self.refused("abc", word + " b:1..2", 0)
            self.refused("abc", "b=1 " + word, 1)
            self.refused("abc", "b=1 " + word + " c=4", 1)
            self.refused("abc", "b=1 c=4 " + word, 2)
            self.refused("abc", "b=1 c=4 " + word + " a:1..2", 2)
            self.refused("abc", "b:1..2 " + word, 1)
            self.refused("abc", "c=1 b:1..2 " + word, 2)

    def test_the_first_of_two_wrong_words(self):
        chance = random.Random(81)
        for _ in range(600):
            one, other = chance.sample(NO_WORDS, 2)
            self.refused("abc", one + " " + other, 0)
            self.refused("abc", "b=1 " + one + " " + other, 1)
            self.refused("abc", one + " c=1 " + other, 0)
            self.refused("abc", "b=1 " + one + " c=1 " + other, 1)

    def test_blanks(self):
        self.refused("abc", " ", 0)
        self.refused("abc", "  ", 0)
        self.refused("abc", " a=1", 0)
        self.refused("abc", "  a=1", 0)
        self.refused("abc", "a=1 ", 1)
        self.refused("abc", "a=1  ", 1)
        self.refused("abc", "a=1  b=2", 1)
        self.refused("abc", "a=1 b=2  c=3", 2)
        self.refused("abc", "a=1 b=2 ", 2)
        self.refused("abc", "a=1 b:2..3 ", 2)
        self.refused("abc", "b:2..3 ", 1)
        self.refused("abc", "a =1", 0)
        self.refused("abc", "a= 1", 0)
        self.refused("abc", "b=1 a: 1..2", 1)
        self.refused("abc", "a:1 ..2", 0)
        self.refused("abc", "a:1.. 2", 0)

    def test_none_beside_another_word(self):
        for text in ("- a=1", "- -", "- ", "-  ", "- - -", "- a:1..2", "- x", "- \n"):
            self.refused("abc", text, 0)
        for text in ("a=1 -", "a:1..2 -", "a=1 - b=2", "a=1 - -", "b=5 - a:1..2"):
            self.refused("abc", text, 1)
        self.refused("abc", " -", 0)
        self.refused("abc", "  -", 0)
        self.refused("abc", "a=1 b=1 -", 2)

    def test_letters_out_of_order_and_twice(self):
        self.refused("abc", "b=1 a=1", 1)
        self.refused("abc", "c=1 b=1", 1)
        self.refused("abc", "a=1 c=1 b=1", 2)
        self.refused("abc", "c=1 b=1 a=1", 1)
        self.refused("abc", "a=1 a=1", 1)
        self.refused("abc", "a=1 a=2", 1)
        self.refused("abc", "a=1 b=1 a=1", 2)
        self.refused("abc", "a=1 b=1 b=1", 2)
        self.refused("abc", "a=1 a:1..2", 1)
        self.refused("abc", "a=1 b=1 a:1..1", 2)
        self.refused("abc", "a=1 b=1 b:0..9", 2)
        self.refused("abc", "a=1 b=1 c=1 c:0..9", 3)

    def test_words_behind_a_reach(self):
        self.refused("abc", "a:1..2 b=1", 1)
        self.refused("abc", "b:1..2 a=1", 1)
        self.refused("abc", "a:1..2 b:1..2", 1)
        self.refused("abc", "a:1..2 a:1..2", 1)
        self.refused("abc", "a=1 b:1..2 c=1", 2)
        self.refused("abc", "a=1 c:1..2 b=1", 2)
        self.refused("abc", "a=1 b:1..2 c:1..1", 2)
        self.refused("abc", "a:1..2 b=1 c=x", 1)

    def test_letters_of_the_columns_alone(self):
        self.refused("bd", "a=1", 0)
        self.refused("bd", "b=1 c=1", 1)
        self.refused("bd", "b=1 e=1", 1)
        self.refused("bd", "b=1 d=1 e:1..1", 2)
        self.refused("bd", "c:1..2", 0)
        self.refused("bd", "bd=1", 0)
        self.assertEqual(read_question("bd", "b=1 d=1"), ((("b", 1), ("d", 1)), None))
        self.assertEqual(read_question("bd", "d=1 b:1..1"), ((("d", 1),), ("b", 1, 1)))

    def test_many_words(self):
        self.refused("abcdef", " ".join(["a=1"] * 1000), 1)
        self.refused("abcdef", "a=1 b=1 c=1 d=1 e=1 f=1 f=1", 6)
        self.refused("abcdef", "a=1 b=1 c=1 d=1 e=1 f:1..1 f=1", 6)
        self.refused("abcdef", " " * 1000, 0)

    def test_no_text_is_read_that_is_not_written_so(self):
        """Texts of few signs: just those are read that question_text writes."""
        signs = "ab=:.01- "
        for many in range(1, 6):
            for text in map("".join, itertools.product(signs, repeat=many)):
                try:
                    told = read_question("ab", text)
                except NoText as error:
                    self.assertLess(error.number, len(text.split(" ")))
                else:
                    self.assertEqual(question_text(told), text)
                    self.assertTrue(is_question("ab", told))


if __name__ == "__main__":
    unittest.main()
