"""What the tests share: drawn standings, wishes and pours, and values that are wrong in some way."""

import functools
import itertools
import random

WRONG_VALUES = (
    None, True, False, -1, 0, 1, 7, 1.5, 2.0, "", "a", "0", b"", b"ab", [], [0], {}, {0: 1}, set(), frozenset(), object(),
    (), (0,), (None,), (True,), ((),), ((), ()), (((),),), ("a", "b"), (1, 2, 3), ((1, 2), (3, 4)), range(3), len, int,
    (0, ()), (1, ()), (2, [()]), [2, ((),)], ((0,), (1,)), float("nan"), 10 ** 3999, -(10 ** 3999), (10 ** 3999,),
)


def nested(deep):
    """A tuple in a tuple, and so on."""
    value = ()
    for _ in range(deep):
        value = (value,)
    return value


def broken(value):
    """The value with one of its parts turned into something of another kind, again and again another one."""
    if isinstance(value, tuple):
        yield list(value)
        yield None
        yield len(value)
        yield "x" * len(value)
        for at, part in enumerate(value):
            for wrong in broken(part):
                yield value[:at] + (wrong,) + value[at + 1:]
    elif isinstance(value, str):
        yield from (None, 0, value + "x", "", value.encode(), (value,), [value])
    elif value is None:
        yield from (True, -1, "None", [], "")
    else:
        yield from (bool(value), -1 - value, float(value), str(value), None, [value], (value,))


def all_in_tuples(value):
    """Whether a value is made of tuples, integers, strings and None alone."""
    if isinstance(value, tuple):
        return type(value) is tuple and all(all_in_tuples(part) for part in value)
    return value is None or type(value) in (int, str, bool)


def split(rng, records, b, many):
    """Records shared out at random among so many blocks."""
    while True:
        blocks = [[] for _ in range(many)]
        for record in rng.sample(list(records), len(records)):
            free = [block for block in blocks if len(block) < b]
            rng.choice(free).append(record)
        return tuple(tuple(sorted(block)) for block in blocks)


def drawn_standing(rng, b=None, many=None, records=None):
    """Some standing."""
    b = b or rng.randint(1, 4)
    many = many or rng.randint(1, 5)
    if records is None:
        records = rng.randint(0, b * many)
    return b, split(rng, range(records), b, many)


def drawn_wish(rng, standing):
    """Some wish of a standing."""
    b, blocks = standing
    records = sum(map(len, blocks))
    places = [at for at in range(len(blocks)) for _ in range(b)]
    return tuple(rng.sample(places, records))


def drawn_pour(rng, standing, m):
    """Some pour of a standing with two blocks or more."""
    b, blocks = standing
    who = tuple(sorted(rng.sample(range(len(blocks)), rng.randint(2, min(m, len(blocks))))))
    return who, split(rng, [record for at in who for record in blocks[at]], b, len(who))


def plainly_poured(standing, pour):
    """The standing behind a pour."""
    b, blocks = standing
    held = dict(enumerate(blocks))
    held.update(zip(*pour))
    return b, tuple(held[at] for at in range(len(blocks)))


def drawn_row(rng, standing, m, many):
    """A pair: some row of so many pours, none if there is one block alone, and the standing behind it."""
    row = []
    if len(standing[1]) > 1:
        for _ in range(many):
            row.append(drawn_pour(rng, standing, m))
            standing = plainly_poured(standing, row[-1])
    return tuple(row), standing


def drawn_errand(rng, many=3, **kinds):
    """Some errand."""
    standing = drawn_standing(rng, **kinds)
    m = rng.randint(2, 4)
    row, last = drawn_row(rng, standing, m, rng.randint(0, many))
    wish = [0] * sum(map(len, last[1]))
    for at, block in enumerate(last[1]):
        for record in block:
            wish[record] = at
    return m, standing, tuple(wish), row


def all_partings(pool, b, many):
    """All ways to share out a pool among so many blocks, ascending within each."""
    if many == 0:
        if not pool:
            yield ()
        return
    for size in range(min(b, len(pool)) + 1):
        for block in itertools.combinations(pool, size):
            rest = tuple(record for record in pool if record not in block)
            for others in all_partings(rest, b, many - 1):
                yield (block,) + others


@functools.lru_cache(maxsize=4096)
def known_partings(pool, b, many):
    """The same as a tuple, kept for the next time."""
    return tuple(all_partings(pool, b, many))


def all_pours(standing, m):
    """All pours of at most m blocks of a small standing."""
    b, blocks = standing
    for size in range(2, min(m, len(blocks)) + 1):
        for who in itertools.combinations(range(len(blocks)), size):
            pool = tuple(sorted(record for at in who for record in blocks[at]))
            for parts in known_partings(pool, b, size):
                yield who, parts


def played(standing, m, row):
    """The standing behind a row, played pour by pour; it fails if one is no pour of at most m blocks."""
    b, blocks = standing
    held = dict(enumerate(blocks))
    if type(row) is not tuple:
        raise AssertionError(row)
    for pour in row:
        who, parts = pour
        records = sorted(record for at in who for record in held[at])
        well = type(pour) is tuple and type(who) is tuple and type(parts) is tuple
        well = well and 2 <= len(who) <= m and list(who) == sorted(set(who)) and len(parts) == len(who)
        well = well and all(type(part) is tuple and list(part) == sorted(part) and len(part) <= b for part in parts)
        if not well or sorted(record for part in parts for record in part) != records or not all_in_tuples(pour):
            raise AssertionError(pour)
        held.update(zip(who, parts))
    return b, tuple(held[at] for at in range(len(blocks)))


def rings_of(names):
    """The sizes of the rings of names."""
    left, sizes = set(range(len(names))), []
    while left:
        at, size = min(left), 0
        while at in left:
            left.remove(at)
            at, size = names[at], size + 1
        sizes.append(size)
    return sizes


def distances(standing, m):
    """For each standing that can be reached the least number of pours that lead there."""
    b, blocks = standing
    found = {blocks: 0}
    waiting = [blocks]
    for held in waiting:
        for who, parts in all_pours((b, held), m):
            other = list(held)
            for at, part in zip(who, parts):
                other[at] = part
            other = tuple(other)
            if other not in found:
                found[other] = found[held] + 1
                waiting.append(other)
    return {(b, held): count for held, count in found.items()}


def plain_wish(standing):
    """The wish of each record to lie where it lies in this standing."""
    where = {record: at for at, block in enumerate(standing[1]) for record in block}
    return tuple(where[record] for record in range(len(where)))


def drawn_asks(rng, many):
    """Some asks, of few pages or of many."""
    pages = rng.randint(1, 5)
    return tuple(rng.randrange(pages) for _ in range(many))


def all_lots(things):
    """All tuples of some of these things, in their order."""
    return itertools.chain.from_iterable(itertools.combinations(things, many) for many in range(len(things) + 1))


def drawn_search(rng, n, b, useless):
    """Some right search of n keys; the greater the share told, the more of its keys and nodes are of no use."""
    nodes, waiting = [], [(0, n)] if n else []
    for low, high in waiting:
        if low == high or rng.random() < useless:
            keys = sorted(rng.sample(range(n), rng.randint(1, min(n, b))))
        else:
            keys = sorted(rng.sample(range(low, high), rng.randint(1, min(b, high - low))))
        nexts = []
        for begin, end in zip((0, *[key + 1 for key in keys]), (*keys, n)):
            begin, end = max(begin, low), min(end, high)
            # No gap comes here, one does, or some do.
            if begin > end:
                nexts.append("any" if rng.random() < useless else None)
            elif begin < end or rng.random() < useless / 4:
                nexts.append(len(waiting))
                waiting.append((begin, end))
            else:
                nexts.append(None)
        nodes.append((tuple(keys), nexts))
    return tuple((keys, tuple(rng.choice((None, *range(at + 1, len(nodes)))) if later == "any" else later for later in nexts))
                 for at, (keys, nexts) in enumerate(nodes))


def rng_of(seed):
    """A source of random numbers that begins anew with each test."""
    return random.Random(seed)


def plain_way(h, end):
    """The nodes above an end, found from the bottom."""
    nodes, at = [], end + 2 ** h - 1
    while at > 0:
        at = (at - 1) // 2
        nodes.append(at)
    return tuple(nodes[::-1])


def plain_visits(h, laying, b, shift):
    """The visits to each end, by a list of the blocks."""
    places = [None] * shift + list(laying)
    blocks = [places[at:at + b] for at in range(0, len(places), b)]
    lies_in = {node: number for number, block in enumerate(blocks) for node in block}
    return tuple(len({lies_in[node] for node in plain_way(h, end)}) for end in range(2 ** h))


def plain_ends(tree, depth=0):
    """The depths of the ends of a tree, from left to right."""
    return [depth] if tree == () else [found for entry in tree for found in plain_ends(entry, depth + 1)]


def all_points(sides):
    """All points of these sides."""
    return list(itertools.product(*map(range, sides)))


def play_walk(sides, room, walk):
    """How many steps "in" a walk has, played step by step; None if it is no walk."""
    tables = dict(enumerate(((sides[0], sides[2]), (sides[2], sides[1]), (sides[0], sides[1]))))
    there, left, moves = set(), set(all_points(sides)), 0
    for word, told in walk:
        if word == "do":
            i, j, k = told
            if told not in left or not {(0, i, k), (1, k, j), (2, i, j)} <= there:
                return None
            left.remove(told)
        elif told[1] >= tables[told[0]][0] or told[2] >= tables[told[0]][1] or (told in there) == (word == "in"):
            return None
        else:
            there ^= {told}
            moves += word == "in"
            if len(there) > room:
                return None
    return None if left else moves
