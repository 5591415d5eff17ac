"""The calls: what an order of a few things makes likely."""

ORDER_REFUSED = -22
MOST_THINGS = 6


def rows(n, o):
    """How many rows there are."""
    found = find_rows(n, o)
    if len(found) == 0:
        return [ORDER_REFUSED]
    return [len(found)]


def first(n, o):
    """n, then the first row."""
    found = find_rows(n, o)
    if len(found) == 0:
        return [ORDER_REFUSED]
    return [n] + found[0]


def find_rows(n, o):
    """All rows that keep to o, the lesser first; none where n or o is to be refused."""
    if n < 1 or n > MOST_THINGS or not are_pairs(n, o):
        return []
    # A ring needs no search of its own: no row keeps to a ring, and where there is none there is a row.
    begun = [[]]
    for place in range(n):
        begun = longer_by_one(n, o, begun)
    return begun


def are_pairs(n, o):
    """Whether o is pairs of two different ones of n things; a ring is not looked for."""
    if len(o) % 2 == 1:
        return False
    for k in range(0, len(o), 2):
        if o[k] >= n or o[k + 1] >= n or o[k] == o[k + 1]:
            return False
    return True


def longer_by_one(n, o, begun):
    """The begun rows, each with every thing that may come next."""
    # Begun rows that stand the lesser first stay so, as the things are tried rising.
    longer = []
    for row in begun:
        for thing in range(n):
            if may_come_next(thing, row, o):
                longer.append(row + [thing])
    return longer


def may_come_next(thing, row, o):
    """Whether thing isn't in the begun row yet, and all that a pair puts ahead of it is."""
    if thing in row:
        return False
    for k in range(0, len(o), 2):
        if o[k + 1] == thing and o[k] not in row:
            return False
    return True
