"""Sheets: questions with what answers them, each looked at in one way."""

from fewestpours.anywish import row_for
from fewestpours.askpapers import ask_paper, is_ask_paper
from fewestpours.basics import LEAST_ROOMS, MOST_ROOMS, is_between, is_number, is_tuple_of
from fewestpours.belowpapers import is_paper_below, paper_below
from fewestpours.blocknetworks import MOST_LEAST_PLACES, least_network
from fewestpours.errors import InvalidQuestion, Refused
from fewestpours.layers import is_layers, layers
from fewestpours.mergepapers import is_told_plan
from fewestpours.merging import least_plan
from fewestpours.networks import is_sorting
from fewestpours.pours import meets
from fewestpours.standings import is_standing, is_wish

MOST_IN_LAYERS = 8
MOST_RUNS = 60
LEAST_FAN = 2
MOST_FAN = 15
MOST_ASKS = 400


def is_wish_question(value):
    """Whether any value is a standing, a wish and m."""
    if not is_tuple_of(value, 3) or not is_standing(value[0]) or not is_wish(value[0], value[1]):
        return False
    return is_between(value[2], LEAST_ROOMS, MOST_ROOMS)


def is_layers_question(value):
    """Whether any value is a small standing, a wish, m and a number."""
    if not is_tuple_of(value, 4) or not is_wish_question(value[:3]) or not is_number(value[3]):
        return False
    return len(value[0][1]) <= MOST_IN_LAYERS and len(value[1]) <= MOST_IN_LAYERS


def is_numbers(value, most, least):
    """Whether any value is a tuple of at most so many numbers, none of them less than told."""
    if not isinstance(value, tuple) or len(value) > most:
        return False
    for entry in value:
        if not is_number(entry) or entry < least:
            return False
    return True


def is_merge_question(value):
    """Whether any value is runs and a fan."""
    if not is_tuple_of(value, 2) or not is_numbers(value[0], MOST_RUNS, 1) or not value[0]:
        return False
    return is_between(value[1], LEAST_FAN, MOST_FAN)


def is_asks_question(value):
    """Whether any value is asks and m."""
    if not is_tuple_of(value, 2) or not is_numbers(value[0], MOST_ASKS, 0):
        return False
    return is_between(value[1], 1, MOST_ROOMS)


def is_network_question(value):
    """Whether any value is a small number of places, alone in a tuple."""
    return is_tuple_of(value, 1) and is_between(value[0], 1, MOST_LEAST_PLACES)


# For each kind of sheet what tells whether any value is a question for it.
QUESTIONS = {
    "row": is_wish_question,
    "below": is_wish_question,
    "layers": is_layers_question,
    "merge": is_merge_question,
    "asks": is_asks_question,
    "network": is_network_question,
}


def is_question(name, value):
    """Whether any value is a question for this kind of sheet."""
    look = QUESTIONS[name]
    return look(value)


def is_kind(value):
    """Whether any value is a kind of sheet."""
    return isinstance(value, str) and value in QUESTIONS


def answer(name, question):
    """What answers a question of this kind."""
    if name == "row":
        return row_for(*question)
    if name == "below":
        return paper_below(*question)
    if name == "layers":
        return layers(*question)
    if name == "merge":
        return least_plan(*question)
    if name == "asks":
        return ask_paper(*question)
    return least_network(*question)


def answers(name, question, value):
    """Whether any value answers a question of this kind."""
    if name == "row":
        return meets(*question, value)
    if name == "below":
        return is_paper_below(*question, value)
    if name == "layers":
        standing, wish, m, _ = question
        return is_layers(standing, wish, m, value)
    if name == "merge":
        return is_told_plan(*question, value)
    if name == "asks":
        return is_ask_paper(*question, value)
    return is_sorting(*question, value)


def sheet_holds(value):
    """Whether any value is a sheet that holds."""
    if not is_tuple_of(value, 3):
        return False
    name, question, told = value
    if not is_kind(name) or not is_question(name, question):
        return False
    return answers(name, question, told)


def sheet(name, question):
    """A sheet of this kind that holds for this question; both may be any values."""
    if not is_kind(name):
        raise Refused(0)
    if not is_question(name, question):
        raise Refused(1)
    return name, question, answer(name, question)


def wrong_sheets(values):
    """The indexes of those of a sequence, any value, that do not hold."""
    if not isinstance(values, (list, tuple)):
        raise InvalidQuestion(0)
    return tuple([at for at, value in enumerate(values) if not sheet_holds(value)])


def sure(below, row):
    """Whether any values are sheets for one question that show together that a row is a least one."""
    if not sheet_holds(below) or not sheet_holds(row):
        return False
    if below[0] != "below" or row[0] != "row" or below[1] != row[1]:
        return False
    return below[2][1] == len(row[2])
