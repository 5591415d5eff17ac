"""The calls: what an order of a few things makes likely."""

ORDER_REFUSED = -22
THING_REFUSED = -2
NONE_THERE = -33
MOST_THINGS = 6


def rows(n, o):
    """How many rows there are."""
    found = find_rows(n, o)
    if len(found) == 0:
        return [ORDER_REFUSED]
    return [len(found)]


def first(n, o):
    """n, then the first row."""
    found = find_rows(n, o)
    if len(found) == 0:
        return [ORDER_REFUSED]
    return [n] + found[0]


def nth(n, k, o):
    """n, then row k, counted from 0."""
    found = find_rows(n, o)
    if len(found) == 0:
        return [ORDER_REFUSED]
    if k >= len(found):
        return [NONE_THERE]
    return [n] + found[k]


def likely(n, x, y, o):
    """0, then how likely x is ahead of y, a fraction."""
    found = find_rows(n, o)
    if len(found) == 0:
        return [ORDER_REFUSED]
    if not are_different_things(n, [x, y]):
        return [THING_REFUSED]
    return [0] + in_lowest_terms(len(with_ahead(found, x, y)), len(found))


def both(n, x, y, z, o):
    """In how many rows x is ahead of y and of z; then in how many ahead of y, of z, and how many rows there are."""
    found = find_rows(n, o)
    if len(found) == 0:
        return [ORDER_REFUSED]
    if not are_different_things(n, [x, y, z]):
        return [THING_REFUSED]
    ahead_of_y = with_ahead(found, x, y)
    ahead_of_z = with_ahead(found, x, z)
    ahead_of_both = with_ahead(ahead_of_y, x, z)
    return [len(ahead_of_both), len(ahead_of_y), len(ahead_of_z), len(found)]


def places(n, x, o):
    """n, then in how many rows x is at each place."""
    found = find_rows(n, o)
    if len(found) == 0:
        return [ORDER_REFUSED]
    if not are_different_things(n, [x]):
        return [THING_REFUSED]
    return [n] + [count_at(found, x, place) for place in range(n)]


def height(n, x, o):
    """0, then at which place, counted from 1, x is in the mean, a fraction."""
    found = find_rows(n, o)
    if len(found) == 0:
        return [ORDER_REFUSED]
    if not are_different_things(n, [x]):
        return [THING_REFUSED]
    places_together = sum([row.index(x) + 1 for row in found])
    return [0] + in_lowest_terms(places_together, len(found))


def ahead(n, x, o):
    """How many things must come ahead of x, then these, rising."""
    found = find_rows(n, o)
    if len(found) == 0:
        return [ORDER_REFUSED]
    if not are_different_things(n, [x]):
        return [THING_REFUSED]
    # What no pair and no several pairs put ahead of x is behind it in some row.
    things = [thing for thing in range(n) if len(with_ahead(found, thing, x)) == len(found)]
    return [len(things)] + things


def split(n, o):
    """0, then the two things nearest to a half, and how likely the lesser is ahead, a fraction."""
    found = find_rows(n, o)
    if len(found) == 0:
        return [ORDER_REFUSED]
    nearest = nearest_to_half(n, found)
    if len(nearest) == 0:
        return [NONE_THERE]
    lesser_ahead = with_ahead(found, nearest[0], nearest[1])
    return [0] + nearest + in_lowest_terms(len(lesser_ahead), len(found))


def find_rows(n, o):
    """All rows that keep to o, the lesser first; none where n or o is to be refused."""
    if n < 1 or n > MOST_THINGS or not are_pairs(n, o):
        return []
    # A ring needs no search of its own: no row keeps to a ring, and where there is none there is a row.
    begun = [[]]
    for place in range(n):
        begun = longer_by_one(n, o, begun)
    return begun


def are_pairs(n, o):
    """Whether o is pairs of two different ones of n things; a ring is not looked for."""
    if len(o) % 2 == 1:
        return False
    for k in range(0, len(o), 2):
        if o[k] >= n or o[k + 1] >= n or o[k] == o[k + 1]:
            return False
    return True


def longer_by_one(n, o, begun):
    """The begun rows, each with every thing that may come next."""
    # Begun rows that stand the lesser first stay so, as the things are tried rising.
    longer = []
    for row in begun:
        for thing in range(n):
            if may_come_next(thing, row, o):
                longer.append(row + [thing])
    return longer


def may_come_next(thing, row, o):
    """Whether thing isn't in the begun row yet, and all that a pair puts ahead of it is."""
    if thing in row:
        return False
    for k in range(0, len(o), 2):
        if o[k + 1] == thing and o[k] not in row:
            return False
    return True


def are_different_things(n, chosen):
    """Whether the chosen are all things that there are, no two of them one."""
    for thing in chosen:
        if thing >= n or chosen.count(thing) > 1:
            return False
    return True


def with_ahead(found, x, y):
    """Those of the found rows in which x is ahead of y."""
    return [row for row in found if row.index(x) < row.index(y)]


def count_at(found, x, place):
    """In how many of the found rows x is at that place."""
    return len([row for row in found if row[place] == x])


def nearest_to_half(n, found):
    """The two things nearest to a half, the lesser first; none where of every two one must come ahead."""
    nearest = []
    # Two of which one must come ahead are just so far off, all others are nearer.
    least = len(found)
    for lesser in range(n):
        for greater in range(lesser + 1, n):
            off = off_half(found, lesser, greater)
            if off < least:
                nearest = [lesser, greater]
                least = off
    return nearest


def off_half(found, x, y):
    """How far it is from a half how likely x is ahead of y; times twice the found rows, so that it is whole."""
    return abs(2 * len(with_ahead(found, x, y)) - len(found))


def in_lowest_terms(above, below):
    """The fraction above by below as two numbers with nothing in common; below is more than 0."""
    shared = below
    rest = above
    while rest > 0:
        left = shared % rest
        shared = rest
        rest = left
    return [above // shared, below // shared]
