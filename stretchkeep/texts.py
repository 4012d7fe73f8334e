"""Questions written as texts, and read from them [17]."""

from stretchkeep.errors import NoText
from stretchkeep.questions import is_question
from stretchkeep.tables import GREATEST


def joined(words):
    """The words with blanks between, - for none."""
    return " ".join(words) if words else "-"


def question_text(question):
    """The text that writes the question."""
    equals, reach = question
    words = [f"{letter}={number}" for letter, number in equals]
    if reach is not None:
        letter, low, high = reach
        words.append(f"{letter}:{low}..{high}")
    return joined(words)


def read_number(word, greatest):
    """The number that the word writes; None where it writes none, or one above the greatest."""
    # The length is looked at first: Python fails to read thousands of figures.
    if not 1 <= len(word) <= len(str(greatest)) or not all(sign in "0123456789" for sign in word):
        return None
    number = int(word)
    # It is written otherwise where a 0 stands ahead.
    return number if number <= greatest and str(number) == word else None


def with_word(question, word):
    """The question with what the word adds, be it fit for one or not; None where the word adds nothing to it."""
    equals, reach = question
    letter, sign, rest = word[:1], word[1:2], word[2:]
    if reach is not None:
        return None
    if sign == "=":
        return ((*equals, (letter, read_number(rest, GREATEST))), None)
    if sign == ":":
        low, dots, high = rest.partition("..")
        return (equals, (letter, read_number(low, GREATEST), read_number(high, GREATEST)))
    return None


def read_question(columns, text):
    """The question of the columns that the text writes."""
    question = ((), None)
    if text == "-":
        return question
    for at, word in enumerate(text.split(" ")):
        question = with_word(question, word)
        # What is a question word by word has its letters in order, and a reach last.
        if not is_question(columns, question):
            raise NoText(at)
    return question
