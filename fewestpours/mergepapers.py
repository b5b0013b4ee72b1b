"""Plans that show by themselves that none costs less."""

from fewestpours.merging import first_take, is_plan, lengths_by


def takes_shortest(there, merge):
    """Whether no other run there, of which the dict tells the lengths, is shorter than one taken."""
    taken = {number: True for number in merge}
    longest = max([there[number] for number in merge])
    for number in there:
        if number not in taken and there[number] < longest:
            return False
    return True


def is_told_plan(runs, fan, value):
    """Whether any value is a told plan."""
    if not is_plan(runs, fan, value):
        return False
    lengths = lengths_by(runs, value)
    there = {number: length for number, length in enumerate(runs)}
    for at, merge in enumerate(value):
        taking = fan if at > 0 else first_take(len(runs), fan)
        if len(merge) != taking or not takes_shortest(there, merge):
            return False
        for number in merge:
            del there[number]
        there[len(runs) + at] = lengths[len(runs) + at]
    return True
