"""Rows that meet any wish."""

from fewestpours.basics import all_entries
from fewestpours.enough import grouping
from fewestpours.planes import even_planes
from fewestpours.pours import blocks_together, lay


def linked_lots(standing, wish):
    """The lots of two or more blocks that hang together, a block with those that its records wish."""
    blocks = standing[1]
    links = [[] for _ in blocks]
    for at, block in enumerate(blocks):
        for record in block:
            links[at].append(wish[record])
            links[wish[record]].append(at)
    seen = {}
    lots = []
    for first in range(len(blocks)):
        lot = []
        waiting = [first]
        while waiting:
            at = waiting.pop()
            if at not in seen:
                seen[at] = True
                lot.append(at)
                waiting.extend(links[at])
        if len(lot) > 1:
            lots.append(tuple(sorted(lot)))
    return tuple(lots)


def put_behind(step, later):
    """One step made of two.

    A step tells for each block that it changes the pair of what lies in it ahead and behind.
    """
    both = dict(step)
    for at in later:
        ahead = step[at][0] if at in step else later[at][0]
        both[at] = (ahead, later[at][1])
    return {at: both[at] for at in both if both[at][0] != both[at][1]}


def tightened(standing, m, row):
    """Some row to where this one leads, whose pours change all their blocks, and whose neighbours can't be made one."""
    held = list(standing[1])
    steps = []
    for pour in row:
        step = {at: (held[at], part) for at, part in zip(pour[0], pour[1]) if held[at] != part}
        lay(held, pour)
        # What becomes one pour may change fewer blocks than both, so it may fit to the one ahead of it, too.
        while step and steps and blocks_together(steps[-1], step) <= m:
            step = put_behind(steps.pop(), step)
        if step:
            steps.append(step)
    return tuple([(tuple(sorted(told)), tuple([told[at][1] for at in sorted(told)])) for told in steps])


class Bench:
    """Blocks that are poured, and the pours so far."""

    def __init__(self, b, blocks, m):
        self.b = b
        self.m = m
        self.blocks = list(blocks)
        self.row = []

    def pour(self, who, goals):
        """Pour some blocks, so that each record lies in the one of them that the goals tell."""
        parts = {at: [] for at in who}
        for record in all_entries([self.blocks[at] for at in who]):
            parts[goals[record]].append(record)
        told = (tuple(sorted(who)), tuple([tuple(sorted(parts[at])) for at in sorted(who)]))
        lay(self.blocks, told)
        self.row.append(told)

    def pour_lots(self, lots, goals):
        """Pour lots of blocks, within each of which the goals of its records lie, as many at once as may be."""
        wide = [lot for lot in lots if len(lot) > 1]
        at_once = self.m // max([len(lot) for lot in lots])
        for at in range(0, len(wide), at_once):
            self.pour(all_entries(wide[at:at + at_once]), goals)

    def settle(self, who, goals):
        """Pour these blocks until each of their records lies in the one that the goals tell: it takes most_pours."""
        if len(who) <= self.m:
            self.pour_lots([who], goals)
            return
        size = grouping(len(who), self.m, {})[1]
        groups = [who[at:at + size] for at in range(0, len(who), size)]
        self.pour_lots(groups, self.plane_goals(groups, goals))
        planes = [[group[place] for group in groups if place < len(group)] for place in range(size)]
        crossing = self.crossing_goals(groups, goals)
        if len(groups) <= self.m:
            self.pour_lots(planes, crossing)
        else:
            for plane in planes:
                self.settle(plane, crossing)
        self.pour_lots(groups, goals)

    def plane_goals(self, groups, goals):
        """For each record the block of its group by which no block gets too many, nor when groups are crossed."""
        group_of = {at: index for index, group in enumerate(groups) for at in group}
        bound = [[[] for _ in groups] for _ in groups]
        for index, group in enumerate(groups):
            for record in all_entries([self.blocks[at] for at in group]):
                bound[index][group_of[goals[record]]].append(record)
        table = tuple([tuple([len(lot) for lot in row]) for row in bound])
        planes = even_planes(len(groups[0]), len(groups[-1]), self.b, table)
        found = {}
        for index, group in enumerate(groups):
            for other, records in enumerate(bound[index]):
                shared = 0
                for place, plane in enumerate(planes):
                    for record in records[shared:shared + plane[index][other]]:
                        found[record] = group[place]
                    shared += plane[index][other]
        return found

    def crossing_goals(self, groups, goals):
        """For each record the block at its place in the group to which it wants to go."""
        group_of = {at: group for group in groups for at in group}
        found = {}
        for group in groups:
            for place, at in enumerate(group):
                for record in self.blocks[at]:
                    found[record] = group_of[goals[record]][place]
        return found


def row_for(standing, wish, m):
    """Some tight row that meets the wish, of at most the most_pours of its linked lots together."""
    b, blocks = standing
    bench = Bench(b, blocks, m)
    for lot in linked_lots(standing, wish):
        bench.settle(list(lot), wish)
    return tightened(standing, m, tuple(bench.row))
