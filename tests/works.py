"""Works that several tests need: a small one that is reckoned by hand, and many by a told seed."""

import random

#         by       none   a   b  ab  ba
# a=0                 8   5   9   5   9
# b=2                 8   9   3   9   3
# a=1 b=3             8   5   3   2   2
EIGHT = ("ab", ((0, 0), (0, 1), (0, 2), (0, 3), (1, 0), (1, 1), (1, 2), (1, 3)))
A_IS_0 = ((("a", 0),), None)
B_IS_2 = ((("b", 2),), None)
A_IS_1_B_IS_3 = ((("a", 1), ("b", 3)), None)
THREE = (EIGHT, ((A_IS_0, 1), (B_IS_2, 1), (A_IS_1_B_IS_3, 1)), 1)


def some_question(chance, columns, top):
    """A question of some letters with numbers below top."""
    letters = [letter for letter in columns if chance.random() < 0.65]
    reach = None
    if letters and chance.random() < 0.5:
        letter = letters.pop(chance.randrange(len(letters)))
        reach = (letter, *sorted((chance.randrange(top), chance.randrange(top))))
    return (tuple((letter, chance.randrange(top)) for letter in letters), reach)


def some_work(chance, columns, rows, asks):
    """A work of these columns with so many rows and asks."""
    top = chance.choice((2, 3, 5))
    table = (columns, tuple(tuple(chance.randrange(top) for _ in columns) for _ in range(rows)))
    often = chance.choice((1, 4, 50, 1000000))
    asked = tuple((some_question(chance, columns, top), chance.randint(1, often)) for _ in range(asks))
    return (table, asked, chance.choice((0, 1, 2, chance.randrange(20), often // 3, 1000000)))


def small_works(seed, many):
    """Works of one to three columns, none to twelve rows and none to five asks."""
    chance = random.Random(seed)
    return [some_work(chance, chance.choice(("a", "bd", "mxz")), chance.randrange(13), chance.randrange(6))
            for _ in range(many)]


def great_works(seed, many):
    """Works at the bounds: four columns, forty rows, five asks."""
    chance = random.Random(seed)
    return [some_work(chance, "abcd", 40, 5) for _ in range(many)]
