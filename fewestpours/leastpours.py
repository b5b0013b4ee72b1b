"""The least number of pours, found by looking at all patterns."""

from fewestpours.patternrounds import Rounds
from fewestpours.pours import lay
from fewestpours.standings import wish_of


def least_pours(standing, wish, m, most):
    """The least number of pours by which a row meets the wish."""
    return len(Rounds(standing, wish, m, most).rounds)


def pour_to(blocks, wish, who, holdings):
    """A pour by which each of these blocks gets records that wish what is told for it."""
    wishers = {}
    for at in who:
        for record in blocks[at]:
            wishers.setdefault(wish[record], []).append(record)
    parts = []
    for holding in holdings:
        part = []
        for goal in holding:
            part.append(wishers[goal].pop())
        parts.append(tuple(sorted(part)))
    return tuple(who), tuple(parts)


def least_row(standing, wish, m, most):
    """Some row that meets the wish by the least number of pours."""
    looked = Rounds(standing, wish, m, most)
    way = looked.way()
    blocks = list(standing[1])
    row = []
    for code, other in zip(way, way[1:]):
        who = looked.codes.changed_blocks(code, other)
        row.append(pour_to(blocks, wish, who, [looked.codes.holding_in(other, at) for at in who]))
        lay(blocks, row[-1])
    return tuple(row)


def pours_between(standing, other, m, most):
    """The least number of pours from one standing to another one."""
    return least_pours(standing, wish_of(standing, other), m, most)
