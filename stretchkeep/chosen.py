"""A cheapest choice kept while questions come and go [16]."""

from stretchkeep.cheapest import grown
from stretchkeep.errors import NoQuestion, TooMany
from stretchkeep.sheets import Sheet

MOST_ASKS = 5


class Wanted:
    """Questions with how often each is asked, in the order in which they came."""

    def __init__(self):
        self.times = {}

    def more(self, question, often):
        """Ask the question so often, or so much more often."""
        if question not in self.times and len(self.times) >= MOST_ASKS:
            raise TooMany("as many other questions are asked as may be at one time")
        self.times[question] = self.times.get(question, 0) + often

    def leave(self, question):
        """Ask the question no longer."""
        if question not in self.times:
            raise NoQuestion("this question isn't asked")
        del self.times[question]

    def as_asks(self):
        """The questions as the asks of a work."""
        return tuple(self.times.items())


class Chosen:
    """A choice of lists for a table that is always a cheapest one for what is asked."""

    def __init__(self, table, changes, room):
        self.table = table
        self.changes = changes
        self.room = room
        self.wanted = Wanted()
        self.chosen = ()
        self.least = 0
        self.new_lists = 0

    def ask(self, question, often):
        """Ask the question so often, or so much more often."""
        self.wanted.more(question, often)
        self.choose()

    def leave(self, question):
        """Ask the question no longer."""
        self.wanted.leave(question)
        self.choose()

    def choose(self):
        """Choose anew where a choice is cheaper than the one that is there."""
        sheet = Sheet((self.table, self.wanted.as_asks(), self.changes))
        self.least = sheet.cost(self.chosen)
        (least, found), tree = grown(sheet, self.room, (self.least, self.chosen), (), sheet.strong_lists())
        # Of the same price another choice may be found, but the one that is there stays.
        if least < self.least:
            self.new_lists += len([one for one in found if one not in self.chosen])
            self.chosen = tuple(sorted(found))
            self.least = least

    def asks(self):
        """The questions that are asked, each with how often, in the order in which they came."""
        return self.wanted.as_asks()

    def choice(self):
        """The choice that is there."""
        return self.chosen

    def price(self):
        """The price of the choice that is there, which no choice within the room is below."""
        return self.least

    def made(self):
        """How many lists of new choices the choices ahead of them hadn't."""
        return self.new_lists
