"""Records that are told slot by slot, ascending within each: into the blocks of a standing, or the parts of a pour."""


class Sharing:
    """What is told so far of how the records of a pool are shared out among slots with b places each.

    If the whole pool has to come, it is the pool of a pour. Otherwise it holds all records that a
    standing may have, and those below the greatest one told have to come.
    """

    def __init__(self, pool, b, slots, is_whole):
        self.b = b
        self.slots = slots
        self.done = []
        self.slot = []
        # What was not told ahead of this slot, how many of these are passed, and how many of these are left out.
        self.left = list(pool)
        self.passed = 0
        self.skipped = 0
        # All records below this one have to come; so many of them are not told yet.
        self.top = 0
        self.missing = 0
        if is_whole and pool:
            self.top = pool[-1] + 1
            self.missing = len(pool)

    def room_behind(self):
        """How many records fit into the slots behind this one."""
        return (self.slots - len(self.done) - 1) * self.b

    def numbers(self):
        """All records that may be told next: those with which all that is left out fits into the slots behind."""
        if len(self.slot) == self.b:
            return []
        last = self.passed + self.room_behind() - self.skipped
        return self.left[self.passed:last + 1]

    def tell(self, record):
        """One of these records is told."""
        at = self.left.index(record, self.passed)
        self.skipped += at - self.passed
        self.passed = at + 1
        self.slot.append(record)
        if record < self.top:
            self.missing -= 1
        else:
            # From the top on nothing is told yet, so all in between is missing now.
            self.missing += record - self.top
            self.top = record + 1

    def may_end(self):
        """Whether this slot may end here."""
        return self.missing <= self.room_behind()

    def end_slot(self):
        """This slot ends, the next one begins."""
        told = {record: True for record in self.slot}
        self.left = [record for record in self.left if record not in told]
        self.done.append(tuple(self.slot))
        self.slot = []
        self.passed = 0
        self.skipped = 0

    def filled(self):
        """A list of slots that go on with those told, and hold all that has to come."""
        told = {record: True for record in self.slot}
        wanted = [record for record in self.left if record < self.top and record not in told]
        free = self.b - len(self.slot)
        fitting = [record for record in wanted if not self.slot or record > self.slot[-1]][:free]
        taken = {record: True for record in fitting}
        later = [record for record in wanted if record not in taken]
        filled = [*self.done, tuple(self.slot + fitting)]
        for at in range(0, len(later), self.b):
            filled.append(tuple(later[at:at + self.b]))
        return filled
