"""How far the standings are from one of them."""

from fewestpours.basics import all_entries
from fewestpours.counting import share_count
from fewestpours.errors import Refused
from fewestpours.patterncodes import lots_below, sharings
from fewestpours.standings import record_count, wish_of


def widest_lots(many, m):
    """A list of the lots of as many blocks as one pour can have; it may leave any of them as it is."""
    return [lot for lot in lots_below(many, m) if len(lot) == min(many, m)]


class Spreading:
    """The blocks of all standings that can be reached from one, by rounds: how many pours they need."""

    def __init__(self, standing, m):
        self.b = standing[0]
        self.lots = widest_lots(len(standing[1]), m)
        self.found = {standing[1]: True}
        # All standings with the same blocks outside of a lot are one pour apart, so each such lot is poured just once.
        self.is_poured = {}
        # The ways to share out records, kept for the next time.
        self.shared = {}
        self.rounds = [[standing[1]]]
        later = self.next_round()
        while later:
            self.rounds.append(later)
            later = self.next_round()

    def next_round(self):
        """A list of what is found by one pour more."""
        later = []
        for blocks in self.rounds[-1]:
            for lot in self.lots:
                outside = tuple([block for at, block in enumerate(blocks) if at not in lot])
                if (lot, outside) not in self.is_poured:
                    self.is_poured[(lot, outside)] = True
                    self.pour(blocks, lot, later)
        return later

    def pour(self, blocks, lot, later):
        """Put what is found by pouring a lot of these blocks into a list."""
        pool = tuple(sorted(all_entries([blocks[at] for at in lot])))
        if pool not in self.shared:
            self.shared[pool] = sharings(pool, self.b, len(lot))
        held = list(blocks)
        for parts in self.shared[pool]:
            for at, part in zip(lot, parts):
                held[at] = part
            told = tuple(held)
            if told not in self.found:
                self.found[told] = True
                later.append(told)


def rounds_from(standing, m, most):
    """A list of the lists of what stands no pour away, one pour away, and so on, if there are not too many."""
    if share_count(standing[0], len(standing[1]), record_count(standing)) > most:
        raise Refused(most)
    return Spreading(standing, m).rounds


def spread(standing, m, most):
    """How many standings need no pour from this one on, how many need just one pour, and so on."""
    return tuple([len(told) for told in rounds_from(standing, m, most)])


def farthest(standing, m, most):
    """All wishes that need the greatest number of pours."""
    last = rounds_from(standing, m, most)[-1]
    return tuple(sorted([wish_of(standing, (standing[0], blocks)) for blocks in last]))
