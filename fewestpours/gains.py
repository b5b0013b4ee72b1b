"""What a pour gains by the two measures."""

from fewestpours.depths import depth_potential
from fewestpours.pours import poured
from fewestpours.powers import psi
from fewestpours.standings import crowd, crowds


def poured_count(standing, pour):
    """How many records lie in the blocks of the pour."""
    return sum([len(part) for part in pour[1]])


def crowd_rows(standing, wish, pour):
    """A pair: the rows of the crowds for the blocks of the pour, ahead of it and behind."""
    blocks = standing[1]
    who, parts = pour
    ahead = tuple([crowd(blocks[at], wish, len(blocks)) for at in who])
    return ahead, tuple([crowd(part, wish, len(blocks)) for part in parts])


def depth_gain(standing, wish, m, pour):
    """How much greater the depth potential of the crowds is behind the pour."""
    ahead, later = crowd_rows(standing, wish, pour)
    return depth_potential(later, m) - depth_potential(ahead, m)


def psi_pair(standing, wish, m, pour):
    """The pair of Psi of the crowds ahead of the pour and behind."""
    return psi(crowds(standing, wish)), psi(crowds(poured(standing, m, pour), wish))


def is_full(standing, wish, m, pour):
    """Whether the pour gains as much as it has records: no pour gains more."""
    return depth_gain(standing, wish, m, pour) == poured_count(standing, pour)
