"""How many standings there are, and how many of them few pours can reach."""

from math import comb

# So many pours at most are asked about.
MOST_POURS = 1000


def share_count(b, many, records):
    """In how many ways so many unlike records can lie in so many blocks, at most b in each."""
    # For none of the blocks, for one, and so on: the list of the ways of no records, of one, and so on.
    ways = [1] + [0] * records
    for blocks in range(1, many + 1):
        later = [1]
        for record in range(records):
            # One record more lies in any block, but for the ways in which b of the others are there already.
            full = comb(record, b) * ways[record - b] if record >= b else 0
            later.append(blocks * (later[record] - full))
        ways = later
    return ways[records]


def pour_most(b, many, records, m):
    """To so many standings at most one pour leads, the one that it begins with counted, too."""
    w = min(many, m)
    return comb(many, w) * share_count(b, w, min(records, b * w))


def within_most(b, many, records, m, t):
    """So many wishes of a standing at most are met by at most t pours."""
    count = share_count(b, many, records)
    most = pour_most(b, many, records, m)
    reached = 1
    pours = 0
    while pours < t and reached < count and most > 1:
        reached = reached * most
        pours += 1
    return min(count, reached)


def far_at_least(b, many, records, m):
    """So many pours at least some wish of each standing needs."""
    count = share_count(b, many, records)
    most = pour_most(b, many, records, m)
    reached = 1
    pours = 0
    while reached < count:
        reached = reached * most
        pours += 1
    return pours


def rare_within(b, many, records, m, parts):
    """At most one wish in so many can be met by as few pours as told here; None if there are fewer wishes."""
    count = share_count(b, many, records)
    most = pour_most(b, many, records, m)
    if parts > count:
        return None
    if most == 1:
        return MOST_POURS
    reached = parts * most
    pours = 0
    while reached <= count:
        reached = reached * most
        pours += 1
    return pours
