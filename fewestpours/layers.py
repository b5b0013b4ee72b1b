"""Layers of patterns: papers that show how many pours are needed at least."""

from fewestpours.basics import all_entries, is_number, is_tuple_of
from fewestpours.patterncodes import PatternCodes
from fewestpours.patternrounds import Rounds
from fewestpours.patterns import met_pattern, pattern


def is_pattern(codes, value):
    """Whether any value is a pattern among these."""
    if not is_tuple_of(value, codes.many):
        return False
    for holding in value:
        if not isinstance(holding, tuple):
            return False
        for entry in holding:
            if not is_number(entry):
                return False
        if holding not in codes.number_of:
            return False
    return tuple(sorted(all_entries(value))) == codes.entries


def codes_told(codes, value):
    """A list of the codes of any value, an ascending tuple of one or more patterns; None if it is no such thing."""
    if not isinstance(value, tuple) or not value:
        return None
    told = []
    for entry in value:
        if not is_pattern(codes, entry):
            return None
        code = codes.code_of(entry)
        if told and code <= told[-1]:
            return None
        told.append(code)
    return told


def layer_numbers(codes, value):
    """A dict with the number of its layer for each code in a tuple of any values; None if one isn't as layers are."""
    layer_of = {}
    for at, entry in enumerate(value):
        told = codes_told(codes, entry)
        if told is None:
            return None
        for code in told:
            if code in layer_of:
                return None
            layer_of[code] = at
    return layer_of


def stays_within(codes, code, layer_of, last):
    """Whether each code to which a pour leads from this one is in some layer up to the last one told."""
    # One lot may lead to very many patterns, so each is looked at before the next lot is.
    for index in range(len(codes.lots)):
        for other in codes.codes_by_lot(code, index):
            if other not in layer_of or layer_of[other] > last:
                return False
    return True


def is_layers(standing, wish, m, value):
    """Whether any value is layers of this standing, this wish and m."""
    if not isinstance(value, tuple):
        return False
    first = pattern(standing, wish)
    codes = PatternCodes(standing[0], m, first)
    layer_of = layer_numbers(codes, value)
    if layer_of is None or codes.code_of(met_pattern(standing, wish)) in layer_of:
        return False
    if value and value[0] != (first,):
        return False
    for code in layer_of:
        at = layer_of[code]
        if at < len(value) - 1 and not stays_within(codes, code, layer_of, at + 1):
            return False
    return True


def layers(standing, wish, m, most):
    """Some layers, as many as the least number of pours."""
    looked = Rounds(standing, wish, m, most)
    return tuple([tuple([looked.codes.pattern_of(code) for code in sorted(told)]) for told in looked.rounds])
