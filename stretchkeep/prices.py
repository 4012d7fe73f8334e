"""What questions, works and choices cost, and choices cut to what is used [8, 9, 10]."""

from stretchkeep.stretches import stretch, used


def price_by(table, one, question):
    """The price of the question by the list one, or by no list where one is None."""
    if one is None:
        columns, rows = table
        return len(rows)
    start, end = stretch(table, one, question)
    return end - start + 1


def price_of(table, choice, question):
    """The least price of the question by a list of the choice or by no list."""
    return min([price_by(table, one, question) for one in (None, *choice)])


def upkeep(changes, choice):
    """What the changes cost by the lists of the choice."""
    return changes * sum(len(one) + 1 for one in choice)


def price(work, choice):
    """The price of the choice in the work."""
    table, asks, changes = work
    asked = sum(often * price_of(table, choice, question) for question, often in asks)
    return asked + upkeep(changes, choice)


def room(choice):
    """How many letters the lists of the choice have together."""
    return sum(len(one) for one in choice)


def cut_list(asks, one):
    """The longest beginning of the list one that a question uses, perhaps none."""
    return max([used(one, question) for question, often in asks], key=len, default="")


def cut(work, choice):
    """The choice with its lists cut for the work."""
    table, asks, changes = work
    beginnings = [cut_list(asks, one) for one in choice]
    return tuple(sorted({one for one in beginnings if one != ""}))
