"""Needs, and the fewest lists that serve them [14]."""

from stretchkeep.tables import is_list, is_rising


def is_need(columns, thing):
    """Whether it is a need of these columns."""
    if not isinstance(thing, tuple) or len(thing) != 2:
        return False
    equals, reach = thing
    if not isinstance(equals, str) or not isinstance(reach, str):
        return False
    # Together the letters of a need are unlike ones of the columns, at least one, as those of a list are.
    return is_rising(equals) and len(reach) <= 1 and is_list(columns, equals + reach)


def serves_need(one, need):
    """Whether the list one serves the need."""
    equals, reach = need
    many = len(equals)
    return sorted(one[:many]) == sorted(equals) and one[many:].startswith(reach)


def is_ahead(first, second):
    """Whether a list may serve the first need by letters that the second one, another one, has among its equals."""
    # Two needs are served by one list just where they are alike or one of them is ahead of the other one.
    equals, reach = first
    return first != second and all(letter in second[0] for letter in equals + reach)


def find_behind(needs, at, tried, ahead):
    """Give this need one behind it, perhaps by moving others; tell whether that was done."""
    for other in range(len(needs)):
        if other not in tried and is_ahead(needs[at], needs[other]):
            tried[other] = True
            if other not in ahead or find_behind(needs, ahead[other], tried, ahead):
                ahead[other] = at
                return True
    return False


def fewest_chains(needs):
    """For each need that has one right ahead of it in its chain, that one; as few chains as any."""
    ahead = {}
    for at in range(len(needs)):
        find_behind(needs, at, {}, ahead)
    return ahead


def chain_to(needs, ahead, last):
    """The needs of the chain that ends with this one, in its order."""
    chain = [needs[last]]
    while last in ahead:
        last = ahead[last]
        chain.append(needs[last])
    return chain[::-1]


def list_for(chain):
    """A list that serves each need of the chain."""
    one = ""
    for equals, reach in chain:
        for letter in equals + reach:
            if letter not in one:
                one += letter
    return one


def apart_of(needs, ahead, lasts):
    """As many needs as there are chains, none of them ahead of another one."""
    # By Koenig's way from a greatest matching to a least cover: the needs that are looked at
    # here, each from the end of a chain on, and that nothing looked at is ahead of, are those.
    waiting = list(lasts)
    looked = {}
    behind = {}
    while waiting:
        at = waiting.pop()
        looked[at] = True
        for other in range(len(needs)):
            if other not in behind and is_ahead(needs[at], needs[other]):
                behind[other] = True
                waiting.append(ahead[other])
    return [at for at in range(len(needs)) if at in looked and at not in behind]


def fewest(columns, needs):
    """As few lists as serve all needs, and the numbers of as many needs of which no list serves two."""
    places = [at for at, need in enumerate(needs) if needs.index(need) == at]
    unlike = [needs[at] for at in places]
    ahead = fewest_chains(unlike)
    followed = list(ahead.values())
    lasts = [at for at in range(len(unlike)) if at not in followed]
    lists = [list_for(chain_to(unlike, ahead, last)) for last in lasts]
    apart = tuple(places[at] for at in apart_of(unlike, ahead, lasts))
    return (lists, apart)
