"""Houses: lives that change by deeds, which can be undone."""

from fewestpours.anywish import row_for
from fewestpours.asrows import program_of
from fewestpours.basics import is_number
from fewestpours.below import pours_needed
from fewestpours.diskcode import reads_in
from fewestpours.errors import InvalidQuestion
from fewestpours.lives import joined
from fewestpours.livingchanges import changed
from fewestpours.pours import behind
from fewestpours.readbounds import reads_needed
from fewestpours.reading import read_errand


class House:
    """A life, and the lives ahead of each deed that can be undone."""

    def __init__(self, text):
        m, standing, wish, row = read_errand(text)
        self.now = (standing, wish, m, row)
        self.earlier = []

    def __len__(self):
        """How many deeds can be undone."""
        return len(self.earlier)

    def life(self):
        """The life as it is now."""
        return self.now

    def errand(self):
        """The errand of the life."""
        standing, wish, m, plan = self.now
        return m, standing, wish, plan

    def bounds(self):
        """The pair of how many pours are needed, and how many the plan has."""
        standing, wish, m, plan = self.now
        return pours_needed(standing, wish, m), len(plan)

    def reads(self):
        """The pair of how many reads are needed, and how many the program has."""
        standing, wish, m, _ = self.now
        return reads_needed(standing, wish, m), reads_in(self.program())

    def program(self):
        """Some program that does the plan."""
        standing, _, m, plan = self.now
        return program_of(standing, m, plan)

    def become(self, life):
        """Do a deed by which the life becomes this one."""
        self.earlier.append(self.now)
        self.now = life

    def do(self, change):
        """Make a change, which may be any value."""
        self.become(changed(self.now, change))

    def shorten(self):
        """Let the plan become the shortest one of itself, the joined one and a row made anew; how much shorter."""
        standing, wish, m, plan = self.now
        # Of equally short ones min takes the first.
        shortest = min([plan, joined(self.now)[3], row_for(standing, wish, m)], key=len)
        self.become((standing, wish, m, shortest))
        return len(plan) - len(shortest)

    def pour_on(self, many):
        """Pour so many pours of the plan, any value, or all if there are fewer; how many."""
        if not is_number(many):
            raise InvalidQuestion(0)
        standing, wish, m, plan = self.now
        count = min(many, len(plan))
        self.become((behind(standing, m, plan[:count]), wish, m, plan[count:]))
        return count

    def undo(self):
        """Undo the last deed; whether there was one."""
        if not self.earlier:
            return False
        self.now = self.earlier.pop()
        return True

    def within(self, work):
        """What work(house) returns; behind it the house is as it was."""
        now = self.now
        earlier = self.earlier
        # What is done and undone meanwhile changes a list of its own.
        self.earlier = list(earlier)
        try:
            return work(self)
        finally:
            self.now = now
            self.earlier = earlier
