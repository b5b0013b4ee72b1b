"""Patterns as numbers, for looking at many of them: next ones are found by adding."""

from fewestpours.basics import all_entries


def takings(pool, most):
    """A list of all pairs of at most so many entries taken from an ordered pool, and of those left, both in order."""
    if not pool:
        return [((), ())]
    same = pool.count(pool[0])
    found = []
    for taken, left in takings(pool[same:], most):
        for more in range(min(same, most - len(taken)) + 1):
            found.append((pool[:more] + taken, pool[more:same] + left))
    return found


def sharings(pool, b, many):
    """A list of all ways to share out an ordered pool among so many blocks, with at most b entries in each."""
    if many == 1:
        return [(pool,)] if len(pool) <= b else []
    found = []
    for taken, left in takings(pool, b):
        if len(left) <= b * (many - 1):
            found.extend([(taken, *others) for others in sharings(left, b, many - 1)])
    return found


def lots_below(many, m):
    """A list of the ascending tuples of two to m of the numbers below many."""
    lots = [()]
    for at in range(many):
        lots = lots + [(*lot, at) for lot in lots if len(lot) < m]
    return [lot for lot in lots if len(lot) > 1]


class PatternCodes:
    """The codes of all patterns with the entries of one of them, and the pours between these.

    A code has for each block, the first one foremost, the number of what it may hold, these numbers being
    in order: so codes are in the same order as their patterns.
    """

    def __init__(self, b, m, told):
        self.b = b
        self.many = len(told)
        self.entries = tuple(sorted(all_entries(told)))
        self.holdings = sorted([taken for taken, _ in takings(self.entries, b)])
        self.number_of = {holding: at for at, holding in enumerate(self.holdings)}
        self.width = len(self.holdings).bit_length()
        # Small lots come first, as few pours of them lead to few patterns.
        self.lots = sorted(lots_below(self.many, m), key=len)
        self.masks = [sum([self.put(at, (1 << self.width) - 1) for at in lot]) for lot in self.lots]
        # For each lot what may be added to a code, for each that its blocks may hold together.
        self.steps = [{} for _ in self.lots]
        self.shared = {}

    def put(self, at, number):
        """What the number of what a block holds adds to a code."""
        return number << (self.many - 1 - at) * self.width

    def code_of(self, told):
        """The code of a pattern."""
        return sum([self.put(at, self.number_of[holding]) for at, holding in enumerate(told)])

    def holding_in(self, code, at):
        """What a block holds."""
        return self.holdings[code >> (self.many - 1 - at) * self.width & (1 << self.width) - 1]

    def pattern_of(self, code):
        """The pattern with this code."""
        return tuple([self.holding_in(code, at) for at in range(self.many)])

    def changed_blocks(self, code, other):
        """A list of the blocks that hold other entries by one code than by the other one."""
        return [at for at in range(self.many) if self.holding_in(code, at) != self.holding_in(other, at)]

    def next_codes(self, code):
        """A list of the codes to which one pour leads, each once."""
        found = []
        for index in range(len(self.lots)):
            found.extend(self.codes_by_lot(code, index))
        return found

    def codes_by_lot(self, code, index):
        """A list of the codes to which one pour leads that changes just the blocks of the lot with this index."""
        steps = self.steps[index]
        held = code & self.masks[index]
        if held not in steps:
            steps[held] = self.steps_from(self.lots[index], held)
        return [code + step for step in steps[held]]

    def steps_from(self, lot, held):
        """A list of what is added if the blocks of the lot, holding this, all get other entries."""
        ahead = [self.holding_in(held, at) for at in lot]
        pool = tuple(sorted(all_entries(ahead)))
        if (pool, len(lot)) not in self.shared:
            self.shared[(pool, len(lot))] = sharings(pool, self.b, len(lot))
        steps = []
        for parts in self.shared[(pool, len(lot))]:
            if not any([part == holding for part, holding in zip(parts, ahead)]):
                steps.append(sum([self.put(at, self.number_of[part]) for at, part in zip(lot, parts)]) - held)
        return steps
