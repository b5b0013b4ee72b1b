"""Texts as errands."""

from fewestpours.errors import InvalidText
from fewestpours.homeward import row_home
from fewestpours.readers import (
    begin_wish,
    end_pour,
    end_wish,
    numbers_that_follow,
    read_tokens,
    set_blocks,
    words_that_follow,
)
from fewestpours.tokens import tokens_of


def errand_read(reader):
    """The errand that a reader was told."""
    return reader.m, (reader.b, reader.first), tuple(reader.wish), tuple(reader.row)


def read_errand(text):
    """The errand with just the tokens of the text, which may be any value."""
    if not isinstance(text, str):
        raise InvalidText(0)
    tokens = tokens_of(text)
    reader, many = read_tokens(tokens)
    if many < len(tokens) or reader.phase != "end":
        raise InvalidText(many)
    return errand_read(reader)


def may_follow(text):
    """All tokens with which the text can go on towards an errand, ascending as strings."""
    tokens = tokens_of(text)
    reader, many = read_tokens(tokens)
    if many < len(tokens):
        return ()
    numbers = [str(number) for number in numbers_that_follow(reader)]
    return tuple(sorted(words_that_follow(reader) + numbers))


def finish_blocks(reader):
    """Tell blocks with all records that have to come, if the wish has not begun."""
    if reader.first:
        return
    if reader.phase == "blocks" and reader.lots.done and reader.lots.missing == 0:
        begin_wish(reader)
    else:
        set_blocks(reader, reader.lots.filled())


def finish_wish(reader):
    """Let each further record wish the block in which it lies, while there is a place."""
    lies_in = {record: at for at, block in enumerate(reader.first) for record in block}
    for record in range(len(reader.wish), reader.records):
        goal = lies_in[record]
        if reader.wishers[goal] == reader.b:
            goal = [wishers < reader.b for wishers in reader.wishers].index(True)
        reader.wish.append(goal)
        reader.wishers[goal] += 1
    end_wish(reader)


def finish_pour(reader):
    """Go on with the pour that has begun, if one has."""
    who = reader.who
    if reader.phase == "who":
        if not who:
            who.append(0)
        if len(who) == 1:
            who.append(who[0] + 1)
        parts = [reader.blocks[at] for at in who]
    elif reader.phase == "parts":
        parts = reader.parts.filled()
        parts.extend([()] * (len(who) - len(parts)))
    else:
        return
    end_pour(reader, (tuple(who), tuple(parts)))


def completed(text):
    """Some errand whose first tokens are all those of the text, None if there is none."""
    tokens = tokens_of(text)
    reader, many = read_tokens(tokens)
    if many < len(tokens):
        return None
    if reader.phase != "end":
        finish_blocks(reader)
        if reader.phase in ("pours", "who", "parts"):
            finish_pour(reader)
        else:
            finish_wish(reader)
        reader.row.extend(row_home(reader.b, reader.blocks, reader.wish, reader.m))
    return errand_read(reader)
