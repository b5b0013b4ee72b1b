"""The fewest steps of loops with few points, found by looking at all orders of these."""

from fewestpours.errors import Refused
from fewestpours.loopbounds import point_count
from fewestpours.shadows import needs
from fewestpours.tablefilling import bits_of

MOST_POINTS = 8


def thinned(mask, many):
    """A list of the masks that are left if so many bits of this one are taken out."""
    found = {mask: True}
    for _ in range(many):
        fewer = {}
        for held in found:
            for bit in bits_of(held):
                fewer[held & ~(1 << bit)] = True
        found = fewer
    return list(found)


class SmallLoop:
    """The least ways to do the points of small sides.

    Lots of points, and of entries, are kept as masks. An entry is brought in just ahead of a point that needs it,
    leaves as soon as no other one does, and otherwise only where the room is full: no other walk has fewer steps "in".
    So all that matters is which points are done, and which entries are held then.
    """

    def __init__(self, sides, room):
        p, q, r = sides
        self.room = room
        self.points = [(i, j, k) for i in range(p) for j in range(q) for k in range(r)]
        self.entries = sorted({entry for point in self.points for entry in needs(point)})
        number_of = {entry: number for number, entry in enumerate(self.entries)}
        self.needed = [sum([1 << number_of[entry] for entry in needs(point)]) for point in self.points]
        # For each number of points done, for each lot of these and of the entries held: the least number of steps
        # "in", the lots ahead of the last point, and this point.
        self.rounds = [{(0, 0): (0, None, None)}]
        for _ in self.points:
            self.rounds.append(self.next_round(self.rounds[-1]))

    def wanted(self, done):
        """The lot of entries that some of the points that are not done need."""
        wanted = 0
        for point, needed in enumerate(self.needed):
            if not done >> point & 1:
                wanted = wanted | needed
        return wanted

    def kept_lots(self, held, needed):
        """A list of the lots that may be kept while a point is done that needs others."""
        others = held & ~needed
        return thinned(others, max(0, len(bits_of(others)) + len(bits_of(needed)) - self.room))

    def next_round(self, ahead):
        """What follows if one point more is done."""
        found = {}
        for done, held in ahead:
            steps = ahead[(done, held)][0]
            for point, needed in enumerate(self.needed):
                if not done >> point & 1:
                    later = done | 1 << point
                    wanted = self.wanted(later)
                    more = steps + len(bits_of(needed & ~held))
                    for kept in self.kept_lots(held, needed):
                        lots = (later, (kept | needed) & wanted)
                        if lots not in found or more < found[lots][0]:
                            found[lots] = (more, (done, held), point)
        return found

    def last_lots(self):
        """The lots where all points are done: no entry is held then."""
        return (1 << len(self.points)) - 1, 0

    def way(self):
        """A list of triples: a point, and the entries that are held ahead of it and behind it."""
        found = []
        lots = self.last_lots()
        for told in self.rounds[:0:-1]:
            _, ahead, point = told[lots]
            found.append((point, ahead[1], lots[1]))
            lots = ahead
        return found[::-1]

    def steps_with(self, word, mask):
        """A list of a step with this word for each entry of a lot."""
        return [(word, self.entries[number]) for number in bits_of(mask)]

    def walk(self):
        """A walk with the fewest steps "in"."""
        steps = []
        for point, held, later in self.way():
            needed = self.needed[point]
            steps.extend(self.steps_with("out", held & ~needed & ~later))
            steps.extend(self.steps_with("in", needed & ~held))
            steps.append(("do", self.points[point]))
            steps.extend(self.steps_with("out", needed & ~later))
        return tuple(steps)


def refuse_many_points(sides):
    """Refuse more points than all orders are looked at for."""
    if point_count(sides) > MOST_POINTS:
        raise Refused(point_count(sides))


def fewest_in(sides, room):
    """The least number of steps "in" of any walk."""
    refuse_many_points(sides)
    loop = SmallLoop(sides, room)
    return loop.rounds[-1][loop.last_lots()][0]


def best_walk(sides, room):
    """Some walk with the least number of steps "in"."""
    refuse_many_points(sides)
    return SmallLoop(sides, room).walk()
