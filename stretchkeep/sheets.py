"""A work's prices by each list of its columns, found once for all that looks at many choices."""

from stretchkeep.prices import price_by, upkeep
from stretchkeep.stretches import used
from stretchkeep.tables import lists_of


def prices_by(table, question, lists):
    """The price of the question by each of the lists."""
    # Lists of which the same letters are used have the same stretch, so one of them is enough.
    known = {}
    found = {}
    for one in lists:
        letters = used(one, question)
        if letters not in known:
            known[letters] = price_by(table, one, question)
        found[one] = known[letters]
    return found


class Sheet:
    """What the asks of a work cost by each list, and what is told of choices by that."""

    def __init__(self, work):
        table, asks, changes = work
        self.changes = changes
        self.lists = lists_of(table[0])
        self.often = [often for question, often in asks]
        self.bare = [price_by(table, None, question) for question, often in asks]
        self.prices = [prices_by(table, question, self.lists) for question, often in asks]

    def asked(self, near):
        """What the asks cost, each by no list or by one of those that are near."""
        total = 0
        for often, bare, prices in zip(self.often, self.bare, self.prices):
            total += often * min([bare] + [prices[one] for one in near])
        return total

    def cost(self, choice):
        """The price of the choice in the work."""
        return self.asked(choice) + upkeep(self.changes, choice)

    def outdoes(self, one, other):
        """Whether the list one outdoes the other one."""
        if len(one) > len(other):
            return False
        return all(prices[one] <= prices[other] for prices in self.prices)

    def most_saving(self, choice, lists):
        """Of the lists one by which, with the choice, most is saved, and of these one with fewest letters."""
        return min(lists, key=lambda one: (self.asked((*choice, one)), len(one)))

    def strong_lists(self):
        """Lists none of which outdoes another one, and which outdo all others."""
        strong = []
        # No list is outdone by one that stands behind it here but by one with the same prices.
        for one in sorted(self.lists, key=self.strength):
            if not any(self.outdoes(other, one) for other in strong):
                strong.append(one)
        return strong

    def strength(self, one):
        """Never more for a list than for one that it outdoes."""
        return (len(one), sum(prices[one] for prices in self.prices))
