"""Errands as texts."""


def numbers_told(numbers):
    """A list of these numbers as tokens."""
    return [str(number) for number in numbers]


def pour_tokens(pour):
    """A list of the tokens of a pour."""
    who, parts = pour
    told = ["pour", *numbers_told(who)]
    between = ":"
    for part in parts:
        told.append(between)
        told.extend(numbers_told(part))
        between = ","
    return [*told, ";"]


def entries_of(errand):
    """A list of the errand's entries, each a list of its tokens."""
    m, (b, blocks), wish, row = errand
    entries = [["rooms", str(m), ";"], ["size", str(b), ";"]]
    for at, block in enumerate(blocks):
        entries.append(["block", str(at), ":", *numbers_told(block), ";"])
    entries.append(["wish", ":", *numbers_told(wish), ";"])
    for pour in row:
        entries.append(pour_tokens(pour))
    entries.append(["done"])
    return entries


def errand_tokens(errand):
    """The errand's tokens, in order."""
    told = []
    for entry in entries_of(errand):
        told.extend(entry)
    return tuple(told)


def entry_text(entry):
    """A line with these tokens, with spaces ahead of words alone, so that long errands have short texts."""
    text = entry[0]
    for token in entry[1:]:
        if token in (":", ",", ";"):
            text += token
        else:
            text += " " + token
    return text


def errand_text(errand):
    """A text with just the errand's tokens, a line for each entry."""
    return "\n".join([entry_text(entry) for entry in entries_of(errand)])
