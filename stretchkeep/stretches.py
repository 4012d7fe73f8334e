"""Which stretch of a sorted list a question reads [7]."""

from stretchkeep.questions import fits, letters_of, spans
from stretchkeep.tables import picked, sorted_by


def used(one, question):
    """The first letters of the list one that the question uses."""
    equals, reach = question
    letters = letters_of(equals)
    many = 0
    while many < len(one) and one[many] in letters:
        many += 1
    if reach is not None and one[many:many + 1] == reach[0]:
        many += 1
    return one[:many]


def stretch(table, one, question):
    """The places (from, to) in the sorted list between which the used letters fit."""
    columns, rows = table
    letters = used(one, question)
    wanted = spans(question)
    first = tuple(wanted[letter][0] for letter in letters)
    last = tuple(wanted[letter][1] for letter in letters)
    # First and last differ in their last part alone, as only a reach has two bounds. So what
    # is neither below the first nor above the last fits, and counting tells the places.
    keys = [picked(columns, row, letters) for row in rows]
    ahead = len([key for key in keys if key < first])
    behind = len([key for key in keys if key <= last])
    return (ahead, behind)


def read(table, one, question):
    """The answer, found in the stretch alone, and how many rows the stretch has."""
    columns, rows = table
    start, end = stretch(table, one, question)
    there = sorted_by(table, one)[start:end]
    found = [number for number in there if fits(columns, rows[number], question)]
    return (sorted(found), end - start)


def serves(one, question):
    """Whether the list one uses all letters of the question."""
    letters = used(one, question)
    return all(letter in letters for letter in spans(question))
