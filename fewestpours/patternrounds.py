"""Rounds of patterns: those of the first round are one pour away, and so on."""

from fewestpours.errors import Refused
from fewestpours.patterncodes import PatternCodes
from fewestpours.patterns import met_pattern, pattern


class Rounds:
    """The patterns of a standing, round by round, ahead of the round in which its wish is met."""

    def __init__(self, standing, wish, m, most):
        self.m = m
        self.most = most
        first = pattern(standing, wish)
        self.codes = PatternCodes(standing[0], m, first)
        self.first = self.codes.code_of(first)
        self.goal = self.codes.code_of(met_pattern(standing, wish))
        self.found = {self.first: True}
        # The codes of each round; none, if the wish is met at once.
        self.rounds = []
        if self.first != self.goal:
            self.rounds.append([self.first])
            self.look_further()

    def look_further(self):
        """Look at one round after the other, until the wish is met in the next one."""
        self.refuse_more()
        while self.last_step(self.rounds[-1], self.goal) is None:
            later = []
            for code in self.rounds[-1]:
                self.look_from(code, later)
            self.rounds.append(later)

    def look_from(self, code, later):
        """Put the patterns of the next round that are one pour from this one into a list."""
        for index in range(len(self.codes.lots)):
            for other in self.codes.codes_by_lot(code, index):
                if other not in self.found:
                    self.found[other] = True
                    later.append(other)
            # One lot may lead to very many patterns, so it is looked after each.
            self.refuse_more()

    def refuse_more(self):
        """Refuse to find more patterns than told."""
        if len(self.found) > self.most:
            raise Refused(self.most)

    def last_step(self, codes, goal):
        """The first of these codes from which one pour leads to the goal, None if there is none."""
        for code in codes:
            if len(self.codes.changed_blocks(code, goal)) <= self.m:
                return code
        return None

    def way(self):
        """A list of codes, from the first one to the goal, each one pour from the one ahead of it."""
        found = [self.goal]
        for codes in self.rounds[::-1]:
            found.append(self.last_step(codes, found[-1]))
        return found[::-1]
