"""What DOC.md says of prices, choices, trees and needs, gone through plainly, to hold the program against it."""

import itertools

from tests.things import lists_of


def used_as_told(one, question):
    """What [7] says is used, letter by letter."""
    equals, reach = question
    letters = [letter for letter, number in equals]
    told = "".join(itertools.takewhile(lambda letter: letter in letters, one))
    rest = one[len(told):]
    if reach is not None and rest != "" and rest[0] == reach[0]:
        return told + rest[0]
    return told


def price_by_as_told(table, one, question):
    """[8]: one more than the rows that have what is asked in the used letters; by None all rows."""
    columns, rows = table
    if one is None:
        return len(rows)
    equals, reach = question
    bounds = {letter: (number, number) for letter, number in equals}
    if reach is not None:
        bounds[reach[0]] = reach[1:]
    many = 1
    for row in rows:
        has = dict(zip(columns, row))
        many += all(bounds[letter][0] <= has[letter] <= bounds[letter][1] for letter in used_as_told(one, question))
    return many


def price_as_told(work, choice):
    """[9]: what the asks and the changes cost."""
    table, asks, changes = work
    total = 0
    for question, often in asks:
        total += often * min(price_by_as_told(table, one, question) for one in [None, *choice])
    for one in choice:
        total += changes * (len(one) + 1)
    return total


def choices_within(columns, room):
    """All choices of at most this room."""
    lists = sorted(one for one in lists_of(columns) if len(one) <= room)

    def from_place(place, left):
        yield ()
        for at in range(place, len(lists)):
            if len(lists[at]) <= left:
                for rest in from_place(at + 1, left - len(lists[at])):
                    yield (lists[at], *rest)

    return list(from_place(0, room))


class Prices:
    """A work's prices by each list, found once, since all choices are gone through."""

    def __init__(self, work):
        self.table, self.asks, self.changes = work
        self.lists = lists_of(self.table[0])
        self.by = {one: self.vector(one) for one in [None, *self.lists]}

    def vector(self, one):
        return [price_by_as_told(self.table, one, question) for question, often in self.asks]

    def asked(self, lists):
        columns = zip(*[self.by[one] for one in [None, *lists]])
        return sum(often * min(prices) for (question, often), prices in zip(self.asks, columns))

    def price(self, choice):
        return self.asked(choice) + sum(self.changes * (len(one) + 1) for one in choice)

    def saved(self, choice):
        return self.asked([]) - self.asked(choice)

    def least(self, room):
        return min(self.price(choice) for choice in choices_within(self.table[0], room))

    def outdoes(self, one, other):
        return len(one) <= len(other) and all(mine <= its for mine, its in zip(self.by[one], self.by[other]))

    def floor(self, room, inside, out):
        """The floor of [11]."""
        left = room - sum(len(one) for one in inside)
        near = [one for one in self.lists if one not in out and len(one) <= left]
        return self.asked([*inside, *near]) + sum(self.changes * (len(one) + 1) for one in inside)

    def shows(self, room, number, tree, inside=frozenset(), out=frozenset()):
        """Whether what has the form of a tree shows the number, by the words of [11]."""
        if tree[0] == "over":
            return sum(len(one) for one in inside) > room
        if tree[0] == "dear":
            return self.floor(room, inside, out) >= number
        word, one, within, without = tree
        if one in inside or one in out or one not in self.lists:
            return False
        outdone = {other for other in self.lists if other not in inside and self.outdoes(one, other)}
        first = self.shows(room, number, within, inside | {one}, out)
        return first and self.shows(room, number, without, inside, out | {one} | outdone)


def serves_need_as_told(one, need):
    """[14]: the first letters are those of equals, and the next one is the reach."""
    equals, reach = need
    if set(one[:len(equals)]) != set(equals):
        return False
    return reach == "" or (len(one) > len(equals) and one[len(equals)] == reach)


def needs_of(columns):
    """All needs of these columns."""
    found = []
    for many in range(len(columns) + 1):
        for letters in itertools.combinations(columns, many):
            equals = "".join(letters)
            found.extend((equals, reach) for reach in ["", *columns] if reach == "" or reach not in equals)
    return [need for need in found if need != ("", "")]
