"""The least prices of growing rooms, and lists chosen by and by [12, 13]."""

from stretchkeep.cheapest import grown
from stretchkeep.sheets import Sheet


def stairs(work, room):
    """The pairs (room, price), rising, of each room to this one in which less is paid than in each lesser room."""
    sheet = Sheet(work)
    strong = sheet.strong_lists()
    best = (sheet.cost(()), ())
    steps = [(0, best[0])]
    for size in range(1, room + 1):
        # What was best in less room is a good beginning: only what is cheaper is looked for.
        best, tree = grown(sheet, size, best, (), strong)
        if best[0] < steps[-1][1]:
            steps.append((size, best[0]))
    return steps


def by_and_by(work, many):
    """So many lists, each one by which most more is saved, as long as it is something; and what they save."""
    sheet = Sheet(work)
    choice = ()
    for turn in range(many):
        longer = (*choice, sheet.most_saving(choice, sheet.lists))
        if sheet.asked(longer) == sheet.asked(choice):
            break
        choice = longer
    return (tuple(sorted(choice)), sheet.asked(()) - sheet.asked(choice))
