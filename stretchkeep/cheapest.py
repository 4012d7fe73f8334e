"""The cheapest choice within a room, and the trees that show that none is cheaper [11]."""

from stretchkeep.prices import upkeep
from stretchkeep.sheets import Sheet


def left_of(room, inside):
    """How many letters of the room the lists in leave."""
    return room - sum(len(one) for one in inside)


def fitting(room, inside, free):
    """Those of the lists that have room beside the lists in."""
    left = left_of(room, inside)
    return [one for one in free if len(one) <= left]


def floor(sheet, room, inside, free):
    """What no choice costs less than that has the lists in and beside them free ones alone."""
    near = fitting(room, inside, free)
    return sheet.asked([*inside, *near]) + upkeep(sheet.changes, inside)


def grown(sheet, room, best, inside, free):
    """The best of what is told as best and what is found here, a pair (price, choice), and a tree that shows its price.

    Free are strong lists: what they outdo need not be looked at, neither for the floor nor for a choice.
    """
    best = min(best, (sheet.cost(inside), inside))
    if floor(sheet, room, inside, free) >= best[0]:
        return best, ("dear",)
    one = sheet.most_saving(inside, fitting(room, inside, free))
    # No free list outdoes another one here, so without this one no other one goes out.
    rest = [other for other in free if other != one]
    best, within = grown(sheet, room, best, (*inside, one), rest)
    best, without = grown(sheet, room, best, inside, rest)
    return best, ("list", one, within, without)


def cheapest(work, room):
    """The least price of all choices within the room, a choice that has it, and a tree that shows it."""
    sheet = Sheet(work)
    strong = sheet.strong_lists()
    best, tree = grown(sheet, room, (sheet.cost(()), ()), (), strong)
    # A second time: now that the least price is known from the beginning, the tree has fewer parts.
    (price, choice), tree = grown(sheet, room, best, (), strong)
    return (price, tuple(sorted(choice)), tree)


def is_fork(free, thing):
    """Whether it parts what is with a free list from what is without it, whatever its branches are."""
    return isinstance(thing, tuple) and len(thing) == 4 and thing[0] == "list" and thing[1] in free


def shown(sheet, room, number, thing, inside, free):
    """Whether it is a tree that shows the number with these lists in, and all out that are neither in nor free."""
    if thing == ("over",):
        return left_of(room, inside) < 0
    if thing == ("dear",):
        return floor(sheet, room, inside, free) >= number
    if not is_fork(free, thing):
        return False
    word, one, within, without = thing
    rest = [other for other in free if other != one]
    if not shown(sheet, room, number, within, (*inside, one), rest):
        return False
    kept = [other for other in rest if not sheet.outdoes(one, other)]
    return shown(sheet, room, number, without, inside, kept)


def shows(work, room, number, thing):
    """Whether it is a tree that shows the number."""
    sheet = Sheet(work)
    return shown(sheet, room, number, thing, (), sheet.lists)
