"""Questions and their answers [6]."""

from stretchkeep.tables import is_number, is_rising


def is_letter(columns, thing):
    """Whether it is one letter of the columns."""
    # The length is asked, too, since "" and "ab" are in "abc" as well.
    return isinstance(thing, str) and len(thing) == 1 and thing in columns


def is_equal(columns, thing):
    """Whether it is a letter of the columns with a number."""
    if not isinstance(thing, tuple) or len(thing) != 2:
        return False
    letter, number = thing
    return is_letter(columns, letter) and is_number(number)


def letters_of(equals):
    """The letters of equals, in their order."""
    return [letter for letter, number in equals]


def is_equals(columns, thing):
    """Whether it is the equals of a question."""
    if not isinstance(thing, tuple) or not all(is_equal(columns, part) for part in thing):
        return False
    return is_rising(letters_of(thing))


def is_reach(columns, thing):
    """Whether it is a reach of a question, but for None, whatever its equals are."""
    if not isinstance(thing, tuple) or len(thing) != 3:
        return False
    letter, low, high = thing
    return is_letter(columns, letter) and is_number(low) and is_number(high) and low <= high


def is_question(columns, thing):
    """Whether it is a question of these columns."""
    if not isinstance(thing, tuple) or len(thing) != 2:
        return False
    equals, reach = thing
    if not is_equals(columns, equals):
        return False
    if reach is None:
        return True
    return is_reach(columns, reach) and reach[0] not in letters_of(equals)


def spans(question):
    """For each letter of the question the least and the greatest number that fit."""
    equals, reach = question
    wanted = {letter: (number, number) for letter, number in equals}
    if reach is not None:
        letter, low, high = reach
        wanted[letter] = (low, high)
    return wanted


def fits(columns, row, question):
    """Whether the row has what the question asks."""
    wanted = spans(question)
    for letter in wanted:
        low, high = wanted[letter]
        if not low <= row[columns.index(letter)] <= high:
            return False
    return True


def answer(table, question):
    """The rising numbers of all rows that fit."""
    columns, rows = table
    return [number for number, row in enumerate(rows) if fits(columns, row, question)]
