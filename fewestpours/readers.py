"""A reader: it takes the tokens of an errand one after another, and tells which ones may follow."""

from fewestpours.basics import LEAST_ROOMS, MOST_BLOCKS, MOST_RECORDS, MOST_ROOMS, MOST_SIZE, all_entries
from fewestpours.pours import lay
from fewestpours.sharing import Sharing
from fewestpours.tokens import number_told

# No number in an errand has more digits; so longer tokens need not be looked at as numbers.
MOST_DIGITS = 4

# For each phase in which just one token may follow, which is no number: it, and the phase behind it.
ALONE = {
    "rooms": ("rooms", "m"),
    "; behind m": (";", "size"),
    "size": ("size", "b"),
    "; behind b": (";", "blocks"),
    ": behind block": (":", "records"),
    ": behind wish": (":", "goals"),
}


class Reader:
    """What the tokens taken so far tell."""

    def __init__(self):
        self.phase = "rooms"
        self.m = LEAST_ROOMS
        self.b = 1
        self.lots = Sharing([], 1, 1, False)
        # The first blocks, and those behind the pours taken.
        self.first = ()
        self.blocks = []
        self.records = 0
        self.wish = []
        self.wishers = []
        # How many records lie elsewhere than they wish.
        self.astray = 0
        self.row = []
        self.who = []
        self.parts = Sharing([], 1, 1, True)


def words_at_blocks(reader):
    """The words between two blocks."""
    words = []
    if len(reader.lots.done) < MOST_BLOCKS:
        words.append("block")
    if reader.lots.done and reader.lots.missing == 0:
        words.append("wish")
    return words


def words_at_records(reader):
    """The words within a block."""
    return [";"] if reader.lots.may_end() else []


def words_at_goals(reader):
    """The words within the wish."""
    return [";"] if len(reader.wish) == reader.records else []


def words_at_pours(reader):
    """The words between two pours: with two blocks or more, each wish can still be met."""
    words = []
    if reader.astray == 0:
        words.append("done")
    if len(reader.blocks) > 1:
        words.append("pour")
    return words


def words_at_who(reader):
    """The words among the blocks of a pour."""
    return [":"] if len(reader.who) > 1 else []


def words_at_parts(reader):
    """The words among the parts of a pour."""
    if not reader.parts.may_end():
        return []
    if len(reader.parts.done) + 1 < len(reader.who):
        return [","]
    return [";"]


def numbers_at_m(reader):
    """The numbers of rooms."""
    return list(range(LEAST_ROOMS, MOST_ROOMS + 1))


def numbers_at_b(reader):
    """The sizes of blocks."""
    return list(range(1, MOST_SIZE + 1))


def numbers_at_block(reader):
    """The number of the block that begins."""
    return [len(reader.lots.done)]


def numbers_at_records(reader):
    """The records that may be told in a block."""
    return reader.lots.numbers()


def numbers_at_goals(reader):
    """The blocks that may be wished."""
    if len(reader.wish) == reader.records:
        return []
    return [at for at, wishers in enumerate(reader.wishers) if wishers < reader.b]


def numbers_at_who(reader):
    """The blocks that a pour may have; behind its first one another one has to come."""
    who = reader.who
    if not who:
        return list(range(len(reader.blocks) - 1))
    if len(who) == reader.m:
        return []
    return list(range(who[-1] + 1, len(reader.blocks)))


def numbers_at_parts(reader):
    """The records that may be told in a part."""
    return reader.parts.numbers()


def begin_wish(reader):
    """All blocks are told."""
    set_blocks(reader, reader.lots.done)
    reader.phase = ": behind wish"


def set_blocks(reader, blocks):
    """These are the blocks of the standing."""
    reader.first = tuple(blocks)
    reader.blocks = list(blocks)
    reader.records = len(all_entries(blocks))
    reader.wishers = [0] * len(blocks)


def astray_in(reader, who):
    """How many records in these blocks lie elsewhere than they wish."""
    count = 0
    for at in who:
        for record in reader.blocks[at]:
            if reader.wish[record] != at:
                count += 1
    return count


def end_wish(reader):
    """All wishes are told."""
    reader.astray = astray_in(reader, list(range(len(reader.blocks))))
    reader.phase = "pours"


def end_pour(reader, pour):
    """A pour is told."""
    reader.astray -= astray_in(reader, pour[0])
    lay(reader.blocks, pour)
    reader.astray += astray_in(reader, pour[0])
    reader.row.append(pour)
    reader.phase = "pours"


def word_at_blocks(reader, word):
    """A block or the wish begins."""
    if word == "block":
        reader.phase = "block"
    else:
        begin_wish(reader)


def word_at_records(reader, word):
    """A block ends."""
    reader.lots.end_slot()
    reader.phase = "blocks"


def word_at_goals(reader, word):
    """The wish ends."""
    end_wish(reader)


def word_at_pours(reader, word):
    """A pour begins, or the errand ends."""
    if word == "pour":
        reader.who = []
        reader.phase = "who"
    else:
        reader.phase = "end"


def word_at_who(reader, word):
    """The parts of a pour begin."""
    pool = sorted(all_entries([reader.blocks[at] for at in reader.who]))
    reader.parts = Sharing(pool, reader.b, len(reader.who), True)
    reader.phase = "parts"


def word_at_parts(reader, word):
    """A part ends, and with the last one the pour."""
    reader.parts.end_slot()
    if word == ";":
        end_pour(reader, (tuple(reader.who), tuple(reader.parts.done)))


def number_at_m(reader, number):
    """The number of rooms."""
    reader.m = number
    reader.phase = "; behind m"


def number_at_b(reader, number):
    """The size of the blocks."""
    reader.b = number
    reader.lots = Sharing(list(range(MOST_RECORDS)), number, MOST_BLOCKS, False)
    reader.phase = "; behind b"


def number_at_block(reader, number):
    """The number of a block."""
    reader.phase = ": behind block"


def number_at_records(reader, number):
    """A record of a block."""
    reader.lots.tell(number)


def number_at_goals(reader, number):
    """The wish of a record."""
    reader.wish.append(number)
    reader.wishers[number] += 1


def number_at_who(reader, number):
    """A block of a pour."""
    reader.who.append(number)


def number_at_parts(reader, number):
    """A record of a part."""
    reader.parts.tell(number)


# For each further phase: what tells the words that may follow, what takes one of them, and likewise for numbers.
WORDS_AT = {
    "blocks": words_at_blocks,
    "records": words_at_records,
    "goals": words_at_goals,
    "pours": words_at_pours,
    "who": words_at_who,
    "parts": words_at_parts,
}
WORD_TAKERS = {
    "blocks": word_at_blocks,
    "records": word_at_records,
    "goals": word_at_goals,
    "pours": word_at_pours,
    "who": word_at_who,
    "parts": word_at_parts,
}
NUMBERS_AT = {
    "m": numbers_at_m,
    "b": numbers_at_b,
    "block": numbers_at_block,
    "records": numbers_at_records,
    "goals": numbers_at_goals,
    "who": numbers_at_who,
    "parts": numbers_at_parts,
}
NUMBER_TAKERS = {
    "m": number_at_m,
    "b": number_at_b,
    "block": number_at_block,
    "records": number_at_records,
    "goals": number_at_goals,
    "who": number_at_who,
    "parts": number_at_parts,
}


def words_that_follow(reader):
    """A list of the words and signs that may follow."""
    if reader.phase in ALONE:
        return [ALONE[reader.phase][0]]
    if reader.phase not in WORDS_AT:
        return []
    tell = WORDS_AT[reader.phase]
    return tell(reader)


def numbers_that_follow(reader):
    """A list of the numbers that may follow."""
    if reader.phase not in NUMBERS_AT:
        return []
    tell = NUMBERS_AT[reader.phase]
    return tell(reader)


def take_word(reader, word):
    """One of the words that may follow is taken."""
    if reader.phase in ALONE:
        reader.phase = ALONE[reader.phase][1]
    else:
        act = WORD_TAKERS[reader.phase]
        act(reader, word)


def take(reader, token):
    """Take a token, if it may follow; whether it may."""
    if token in words_that_follow(reader):
        take_word(reader, token)
        return True
    number = number_told(token, MOST_DIGITS)
    if number is None or number not in numbers_that_follow(reader):
        return False
    act = NUMBER_TAKERS[reader.phase]
    act(reader, number)
    return True


def read_tokens(tokens):
    """A pair: the reader behind as many of the first tokens as can be taken, and how many these are."""
    reader = Reader()
    for at, token in enumerate(tokens):
        if not take(reader, token):
            return reader, at
    return reader, len(tokens)
