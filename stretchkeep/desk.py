"""A desk that is told rows of words, and answers them [18]."""

from stretchkeep.cheapest import cheapest
from stretchkeep.chosen import Wanted
from stretchkeep.errors import NoNumber, NoQuestion, NoRow, NoText
from stretchkeep.kept import Rows
from stretchkeep.questions import answer
from stretchkeep.stairs import stairs
from stretchkeep.tables import GREATEST, is_columns, is_list, is_row, sorted_by
from stretchkeep.texts import joined, read_number, read_question

MOST_OFTEN = 1000
MOST_CHANGES = 1000
MOST_ROOM = 6
# A table of more columns or rows is none of a work.
WORK_COLUMNS = 4
WORK_ROWS = 40


def number_of(word, least, greatest):
    """The number from the least to the greatest that the word writes."""
    number = read_number(word, greatest)
    if number is None or number < least:
        raise NoRow("a word should be a number within its bounds")
    return number


class Desk:
    """A table, and the questions that are wanted of it, told row by row."""

    def __init__(self):
        # None until a table is told.
        self.rows = None
        self.wanted = None

    def say(self, row):
        """The answer to a row."""
        words = row.split(" ")
        if words[0] != "table" and self.rows is None:
            raise NoRow("no table is there")
        match words:
            case ["table", columns]:
                return self.begin(columns)
            case ["row", *numbers]:
                return self.put_row(numbers)
            case ["take", number]:
                return self.take_row(number)
            case ["ask", *text]:
                return self.numbers_at(answer(self.rows.as_table(), self.question_of(text)))
            case ["list", one]:
                return self.numbers_by(one)
            case ["want", often, *text]:
                return self.want(often, text)
            case ["drop", *text]:
                return self.drop(text)
            case ["best", room, changes]:
                return self.best(room, changes)
            case ["stairs", room, changes]:
                return self.steps(room, changes)
        raise NoRow("these words are no row of a desk")

    def begin(self, columns):
        """Begin anew, with a table without rows."""
        if not is_columns(columns):
            raise NoRow("a table has one to six letters, rising")
        self.rows = Rows((columns, ()))
        self.wanted = Wanted()
        return "ok"

    def put_row(self, words):
        """Put a row into the table, and tell its number."""
        row = tuple(read_number(word, GREATEST) for word in words)
        if not is_row(self.rows.columns, row):
            raise NoRow("a row has a number from 0 to 999 for each column")
        return str(self.rows.put(row))

    def take_row(self, word):
        """Take a row out of the table."""
        number = number_of(word, 0, self.rows.coming)
        try:
            self.rows.take(number)
        except NoNumber:
            raise NoRow("no row that is there has this number") from None
        return "ok"

    def numbers_at(self, places):
        """The numbers of the rows at these places of the table."""
        numbers = list(self.rows.there)
        return joined([str(numbers[place]) for place in places])

    def numbers_by(self, one):
        """The numbers of all rows, sorted by the list one."""
        if not is_list(self.rows.columns, one):
            raise NoRow("a list has letters of the columns, unlike ones")
        return self.numbers_at(sorted_by(self.rows.as_table(), one))

    def question_of(self, words):
        """The question that the words write."""
        try:
            return read_question(self.rows.columns, " ".join(words))
        except NoText:
            raise NoRow("these words write no question of the columns") from None

    def want(self, word, words):
        """Want a question so much more often."""
        often = number_of(word, 1, MOST_OFTEN)
        self.wanted.more(self.question_of(words), often)
        return "ok"

    def drop(self, words):
        """Want a question no longer."""
        question = self.question_of(words)
        try:
            self.wanted.leave(question)
        except NoQuestion:
            raise NoRow("this question isn't wanted") from None
        return "ok"

    def work_of(self, word):
        """The work of what is there and wanted, with as many changes as the word writes."""
        changes = number_of(word, 0, MOST_CHANGES)
        if len(self.rows.columns) > WORK_COLUMNS or len(self.rows.there) > WORK_ROWS:
            raise NoRow("a work has at most four columns and forty rows")
        return (self.rows.as_table(), self.wanted.as_asks(), changes)

    def best(self, room, changes):
        """The least price within the room, and the lists of a choice that has it."""
        price, choice, tree = cheapest(self.work_of(changes), number_of(room, 0, MOST_ROOM))
        return f"{price} {joined(choice)}"

    def steps(self, room, changes):
        """The least prices of the rooms to this one in which less is paid than in lesser ones."""
        told = stairs(self.work_of(changes), number_of(room, 0, MOST_ROOM))
        return joined([f"{size}:{price}" for size, price in told])
