"""Tables, lists of their columns, and rows sorted by a list [4, 5]."""

MOST_COLUMNS = 6
MOST_ROWS = 60
GREATEST = 999


def is_whole(thing):
    """Whether it is a whole number."""
    # Python counts True and False among the integers, DOC.md does not.
    return isinstance(thing, int) and not isinstance(thing, bool)


def is_number(thing):
    """Whether it is a whole number that a row may have and a question may ask for."""
    return is_whole(thing) and 0 <= thing <= GREATEST


def is_rising(things):
    """Whether each is less than the one behind it; so no two are alike."""
    return all(things[at] < things[at + 1] for at in range(len(things) - 1))


def is_columns(thing):
    """Whether it is the columns of a table."""
    if not isinstance(thing, str) or not 1 <= len(thing) <= MOST_COLUMNS:
        return False
    return is_rising(thing) and all("a" <= letter <= "z" for letter in thing)


def is_row(columns, thing):
    """Whether it is a row of a table of these columns."""
    if not isinstance(thing, tuple) or len(thing) != len(columns):
        return False
    return all(is_number(part) for part in thing)


def is_table(thing):
    """Whether it is a table: columns and at most sixty rows."""
    if not isinstance(thing, tuple) or len(thing) != 2:
        return False
    columns, rows = thing
    if not is_columns(columns) or not isinstance(rows, tuple):
        return False
    return len(rows) <= MOST_ROWS and all(is_row(columns, row) for row in rows)


def is_list(columns, thing):
    """Whether it is a list of these columns: unlike letters of them, at least one, in any order."""
    if not isinstance(thing, str) or thing == "":
        return False
    return len(set(thing)) == len(thing) and all(letter in columns for letter in thing)


def lists_of(columns):
    """All lists of these columns, those of fewer letters first."""
    found = []
    longest = [""]
    for many in range(len(columns)):
        longest = [one + letter for one in longest for letter in columns if letter not in one]
        found.extend(longest)
    return found


def picked(columns, row, letters):
    """What the row has in the columns of these letters, in the order of the letters."""
    return tuple(row[columns.index(letter)] for letter in letters)


def sorted_by(table, one):
    """The numbers of all rows of the table, sorted by the list one."""
    columns, rows = table
    entries = [(picked(columns, row, one), number) for number, row in enumerate(rows)]
    return [number for key, number in sorted(entries)]
