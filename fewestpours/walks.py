"""Walks over the points of a product of two tables, and those that go tile by tile."""

from fewestpours.basics import is_number, is_tuple_of
from fewestpours.enough import rounded_up
from fewestpours.loopbounds import point_count
from fewestpours.shadows import needs

# For a kept table with the indexes u and v, w being the third one: which table has u and w, and which has v and w.
BESIDE_U = (2, 0, 0)
BESIDE_V = (1, 2, 1)


def table_sides(sides):
    """For each table the pair of how many there are of its first index and of its second one."""
    p, q, r = sides
    return (p, r), (r, q), (p, q)


def is_below(value, bounds):
    """Whether any value is a tuple of numbers, each below the bound told for it."""
    if not is_tuple_of(value, len(bounds)):
        return False
    for entry, bound in zip(value, bounds):
        if not is_number(entry) or entry >= bound:
            return False
    return True


def is_entry(sides, value):
    """Whether any value is an entry of one of the tables."""
    if not is_tuple_of(value, 3) or not is_number(value[0]) or value[0] > 2:
        return False
    return is_below(value[1:], table_sides(sides)[value[0]])


def is_step(sides, value):
    """Whether any value is a step."""
    if not is_tuple_of(value, 2) or not isinstance(value[0], str):
        return False
    if value[0] == "do":
        return is_below(value[1], sides)
    return value[0] in ("in", "out") and is_entry(sides, value[1])


def is_walk(sides, room, value):
    """Whether any value is a walk of these sides and this room."""
    if not isinstance(value, tuple):
        return False
    held = {}
    done = {}
    for step in value:
        if not is_step(sides, step):
            return False
        word, told = step
        if word == "do":
            if told in done or False in [entry in held for entry in needs(told)]:
                return False
            done[told] = True
        elif word == "in":
            if told in held or len(held) == room:
                return False
            held[told] = True
        else:
            if told not in held:
                return False
            del held[told]
    return len(done) == point_count(sides)


def walk_moves(walk):
    """How many steps "in" the walk has."""
    return len([step for step in walk if step[0] == "in"])


def turned_sides(sides, table):
    """How many there are of the first index of a kept table, of its second one, and of the third index."""
    p, q, r = sides
    if table == 0:
        return p, r, q
    if table == 1:
        return r, q, p
    return p, q, r


def point_with(table, u, v, w):
    """The point with these indexes: the first one of a kept table, its second one, and the third index."""
    if table == 0:
        return u, w, v
    if table == 1:
        return w, v, u
    return u, v, w


def tile_room(tile):
    """How many entries are in the room at most."""
    _, x, y = tile
    return x * y + min(x, y) + 1


def tile_moves(sides, tile):
    """How many steps "in" a tile walk has."""
    table, x, y = tile
    many_u, many_v, many_w = turned_sides(sides, table)
    for_u = many_u * many_w * rounded_up(many_v, y)
    for_v = many_v * many_w * rounded_up(many_u, x)
    return many_u * many_v + for_u + for_v


def steps_with(word, things):
    """A list of a step with this word for each of these things."""
    return [(word, told) for told in things]


def layer_steps(lines, together, single):
    """A list of the steps by which lines of points are done.

    The entries of one table, the same ones for each line, come together; the one of the other table that a line
    needs comes for it alone.
    """
    shared = [needs(point)[together] for point in lines[0]]
    steps = steps_with("in", shared)
    for line in lines:
        alone = [needs(line[0])[single]]
        steps.extend(steps_with("in", alone) + steps_with("do", line) + steps_with("out", alone))
    return steps + steps_with("out", shared)


def piece_steps(table, piece_u, piece_v, many_w):
    """A list of the steps by which a piece of the kept table is used, for each of the third indexes."""
    kept = [(table, u, v) for u in piece_u for v in piece_v]
    steps = steps_with("in", kept)
    for w in range(many_w):
        if len(piece_u) <= len(piece_v):
            lines = [[point_with(table, u, v, w) for u in piece_u] for v in piece_v]
            steps.extend(layer_steps(lines, BESIDE_U[table], BESIDE_V[table]))
        else:
            lines = [[point_with(table, u, v, w) for v in piece_v] for u in piece_u]
            steps.extend(layer_steps(lines, BESIDE_V[table], BESIDE_U[table]))
    return steps + steps_with("out", kept)


def tile_walk(sides, tile):
    """Some walk that goes tile by tile."""
    table, x, y = tile
    many_u, many_v, many_w = turned_sides(sides, table)
    steps = []
    for u in range(0, many_u, x):
        for v in range(0, many_v, y):
            piece_u = list(range(u, min(u + x, many_u)))
            piece_v = list(range(v, min(v + y, many_v)))
            steps.extend(piece_steps(table, piece_u, piece_v, many_w))
    return tuple(steps)


def best_tile(sides, room):
    """The pair of the fewest steps "in" of tiles that fit into the room, and the first tile with so many."""
    found = []
    for table in range(3):
        many_u, many_v, _ = turned_sides(sides, table)
        tiles = [(table, x, y) for x in range(1, many_u + 1) for y in range(1, many_v + 1)]
        found.extend([(tile_moves(sides, tile), tile) for tile in tiles if tile_room(tile) <= room])
    return min(found)
