"""Patterns: what matters of a standing and a wish."""

from fewestpours.patterncodes import PatternCodes


def pattern(standing, wish):
    """For each block the tuple of what its records wish, in order."""
    return tuple([tuple(sorted([wish[record] for record in block])) for block in standing[1]])


def met_pattern(standing, wish):
    """The pattern of the standing in which the wish is met."""
    return tuple([(at,) * wish.count(at) for at in range(len(standing[1]))])


def next_patterns(b, m, told):
    """All other patterns to which one pour of at most m blocks leads."""
    codes = PatternCodes(b, m, told)
    return tuple([codes.pattern_of(code) for code in sorted(codes.next_codes(codes.code_of(told)))])
