"""Lists kept while rows come and go [15]."""

from stretchkeep.errors import NoNumber, TooMany
from stretchkeep.prices import price_by
from stretchkeep.questions import fits
from stretchkeep.stretches import stretch
from stretchkeep.tables import MOST_ROWS, picked


class Rows:
    """The rows that are there, by their numbers, which rise and are never used twice."""

    def __init__(self, table):
        columns, rows = table
        self.columns = columns
        self.there = dict(enumerate(rows))
        self.coming = len(rows)

    def put(self, row):
        """Put a row, and tell its number."""
        if len(self.there) >= MOST_ROWS:
            raise TooMany("as many rows are there as may be at one time")
        number = self.coming
        self.there[number] = tuple(row)
        self.coming += 1
        return number

    def take(self, number):
        """Take the row of this number away."""
        if number not in self.there:
            # The number is left out of the message: Python fails to write one of thousands of figures.
            raise NoNumber("no row that is there has this number")
        del self.there[number]

    def as_table(self):
        """The rows that are there as a table; a row's place in it is that of its number in there."""
        return (self.columns, tuple(self.there.values()))


class Kept:
    """The lists of a choice, kept for a table of which the rows come and go."""

    def __init__(self, table, choice):
        self.rows = Rows(table)
        self.orders = {one: [] for one in choice}
        for number in self.rows.there:
            self.enter(number)
        self.moves = 0

    def key_by(self, one, number):
        """By what the list one sorts the row of this number."""
        return picked(self.rows.columns, self.rows.there[number], one)

    def enter(self, number):
        """Put the number, greater than all that are in the lists, into each of them."""
        for one in list(self.orders):
            order = self.orders[one]
            key = self.key_by(one, number)
            # Behind rows that are sorted alike, too, since its number is greater than theirs.
            ahead = [other for other in order if self.key_by(one, other) <= key]
            order.insert(len(ahead), number)

    def put(self, row):
        """Put a row, with the next number, into the table and each list; tell the number."""
        number = self.rows.put(row)
        self.enter(number)
        self.moves += len(self.orders)
        return number

    def take(self, number):
        """Take the row of this number out of the table and each list."""
        self.rows.take(number)
        for one in list(self.orders):
            self.orders[one].remove(number)
        self.moves += len(self.orders)

    def sorted_by(self, one):
        """The numbers of the rows that are there, sorted by the list one, which is of the choice."""
        return list(self.orders[one])

    def next_number(self):
        """The number that the next row will have."""
        return self.rows.coming

    def numbers_read(self, table, one, question):
        """The numbers of the rows that the question reads by the list one, or by no list where one is None."""
        if one is None:
            return list(self.rows.there)
        start, end = stretch(table, one, question)
        return self.orders[one][start:end]

    def ask(self, question):
        """The answer, the cheapest list to find it by, or None, and how many rows are read by that."""
        table = self.rows.as_table()
        # None stands last: a list that costs as much as none is told.
        one = min([*self.orders, None], key=lambda other: price_by(table, other, question))
        near = self.numbers_read(table, one, question)
        found = [number for number in near if fits(self.rows.columns, self.rows.there[number], question)]
        return (sorted(found), one, len(near))

    def moved(self):
        """How many entries of lists were put and taken since the beginning."""
        return self.moves
