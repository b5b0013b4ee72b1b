"""What is known while a row runs: how many pours are still to come, and what each pour loses."""

from fewestpours.below import factors_needed, fan_of, measured, pours_needed, summands_needed
from fewestpours.depths import depth_potential
from fewestpours.gains import crowd_rows, depth_gain
from fewestpours.pours import lay, meets
from fewestpours.powers import psi


def running(standing, wish, m, row):
    """For each number of pours done the pair of the bounds by powers and by depths."""
    b, blocks = standing
    w = fan_of(standing, m)
    power_now, power_last, power_most = measured(standing, wish, m, "powers")
    depth_now, depth_last, depth_most = measured(standing, wish, m, "depths")
    held = list(blocks)
    bounds = []
    # One more round than pours: the last one tells the bounds behind all of them.
    for done in range(len(row) + 1):
        by_powers = factors_needed(power_now, power_last, power_most)
        bounds.append((by_powers, summands_needed(depth_now, depth_last, depth_most)))
        if done < len(row):
            ahead, later = crowd_rows((b, held), wish, row[done])
            power_now = power_now // psi(ahead) * psi(later)
            depth_now += depth_potential(later, w) - depth_potential(ahead, w)
            lay(held, row[done])
    return tuple(bounds)


def waste(standing, wish, m, row):
    """For each pour how much less it gains than any pour could."""
    b, blocks = standing
    w = fan_of(standing, m)
    held = list(blocks)
    lost = []
    for pour in row:
        lost.append(w * b - depth_gain((b, held), wish, w, pour))
        lay(held, pour)
    return tuple(lost)


def is_surely_least(standing, wish, m, value):
    """Whether any value is a row that meets the wish by just as many pours as are needed."""
    return meets(standing, wish, m, value) and len(value) == pours_needed(standing, wish, m)
