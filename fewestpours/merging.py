"""Plans by which runs are merged until one is left."""

from fewestpours.basics import is_ascending


def is_plan(runs, fan, value):
    """Whether any value is a plan for these runs, merging at most as many at once as the fan tells."""
    if not isinstance(value, tuple):
        return False
    there = {number: True for number in range(len(runs))}
    for at, merge in enumerate(value):
        if not is_ascending(merge, fan) or len(merge) < 2:
            return False
        for number in merge:
            if number not in there:
                return False
            del there[number]
        there[len(runs) + at] = True
    return len(there) == 1


def lengths_by(runs, plan):
    """A list of the lengths of all runs, those that the plan makes, too."""
    lengths = list(runs)
    for merge in plan:
        lengths.append(sum([lengths[number] for number in merge]))
    return lengths


def plan_cost(runs, plan):
    """The sum of the lengths of the runs that the plan makes."""
    return sum(lengths_by(runs, plan)[len(runs):])


def depths(runs, plan):
    """For each run how many of the merges have blocks of it."""
    # A run that is made is taken by a later merge or is the last one, so going back each depth is there when needed.
    found = [0] * (len(runs) + len(plan))
    for at in range(len(plan) - 1, -1, -1):
        for number in plan[at]:
            found[number] = found[len(runs) + at] + 1
    return tuple(found[:len(runs)])


def first_take(many, fan):
    """How many runs the first merge of a told plan takes, if there are so many, two or more."""
    return 2 + (many - 2) % (fan - 1)


def least_plan(runs, fan):
    """Some plan with the least cost of all, a told one."""
    there = sorted([(length, number) for number, length in enumerate(runs)])
    plan = []
    while len(there) > 1:
        taking = fan if plan else first_take(len(runs), fan)
        taken = there[:taking]
        merged = (sum([length for length, _ in taken]), len(runs) + len(plan))
        plan.append(tuple(sorted([number for _, number in taken])))
        there = sorted([*there[taking:], merged])
    return tuple(plan)


def least_cost(runs, fan):
    """The least cost of all plans."""
    return plan_cost(runs, least_plan(runs, fan))
