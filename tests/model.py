"""A second telling of points 3 to 6, step by step over rows of named things, to hold the program against.

A row is a list with a name in each taken place and None in each free one. Making room is done here by
carrying a hole along, one neighbour at a time, and moves are counted by looking where each name stands.
"""

import itertools

RULES = ("near", "left", "even")
WIDTHS = (1, 2, 3, 4, 5, 6)


def patterns(wide):
    return ["".join(signs) for signs in itertools.product("01", repeat=wide)]


def row_of(pattern):
    """A row with names that rise with their places, tens, so that others fit in between."""
    row = []
    for sign in pattern:
        row.append(10 * len([name for name in row if name is not None]) if sign == "1" else None)
    return row


def pattern_of(row):
    return "".join("0" if name is None else "1" for name in row)


def names(row):
    return [name for name in row if name is not None]


def can_be_done(row, deed):
    what, rank = deed
    ranks = range(len(names(row)))
    if what == "take":
        return rank in ranks
    return what == "put" and (rank in ranks or rank == len(ranks)) and None in row


def deeds_of(row):
    """Every deed that can be done there."""
    deeds = [(what, rank) for what in ("put", "take") for rank in range(len(row) + 2)]
    return [deed for deed in deeds if can_be_done(row, deed)]


def not_deeds_of(row):
    """Deeds that can't be done there: ranks too low, too high, no place free, and other words."""
    deeds = [(what, rank) for what in ("put", "take") for rank in range(-8, 9)]
    deeds += [(what, 0) for what in ("", "Put", "puts", "pu", "t", "tak", "take ", "move", "near")]
    return [deed for deed in deeds if not can_be_done(row, deed)]


def put(rule, row, rank, name):
    """The row behind the putting in, a new list."""
    order = names(row)
    ahead = row.index(order[rank - 1]) if rank else -1
    behind = row.index(order[rank]) if rank < len(order) else len(row)
    row = list(row)
    if behind > ahead + 1:
        row[(ahead + behind) // 2] = name
    elif rule == "even":
        order = order[:rank] + [name] + order[rank:]
        row = [None] * len(row)
        for at, each in enumerate(order):
            row[at * len(row) // len(order)] = each
    else:
        row = with_hole_carried(rule, row, ahead, behind, name)
    return row


def with_hole_carried(rule, row, ahead, behind, name):
    hole, step = nearest_hole(rule, row, ahead, behind)
    goal = ahead if step == 1 else behind
    while hole != goal:
        row[hole] = row[hole + step]
        hole += step
    row[hole] = name
    return row


def nearest_hole(rule, row, ahead, behind):
    """The hole and the way that it is carried: further out, step by step, until one is met."""
    if rule == "left" and None in row[:max(ahead, 0)]:
        return len(row[:ahead]) - 1 - row[:ahead][::-1].index(None), 1
    for off in range(1, len(row)):
        if ahead - off >= 0 and row[ahead - off] is None:
            return ahead - off, 1
        if behind + off < len(row) and row[behind + off] is None:
            return behind + off, -1
    raise AssertionError("no hole")


def take(row, rank):
    gone = names(row)[rank]
    return [None if name == gone else name for name in row]


def moves(ahead, behind):
    """How many names stand in both rows, but in other places."""
    return len([name for name in names(ahead) if name in behind and ahead.index(name) != behind.index(name)])


def after(rule, row, deed, name):
    what, rank = deed
    return put(rule, row, rank, name) if what == "put" else take(row, rank)


def played(rule, wide, deeds):
    """The moves of each deed and the pattern behind all; each new one has a name of its own."""
    row, told = [None] * wide, []
    for name, deed in enumerate(deeds):
        row, was = after(rule, row, deed, name), row
        told.append(moves(was, row))
    return told, pattern_of(row)


def numbers(seed):
    """Numbers without an end, always the same ones for a seed."""
    state = seed
    while True:
        state = (state * 1103515245 + 12345) & 0x7FFFFFFF
        yield state >> 8


def some_deeds(wide, many, seed):
    """So many deeds that can be done one behind the other from the empty shelf, puttings in more often."""
    source = numbers(seed)
    standing, deeds = 0, []
    for _ in range(many):
        puts = standing == 0 or (standing < wide and next(source) & 3 != 0)
        deeds.append(("put", next(source) % (standing + 1)) if puts else ("take", next(source) % standing))
        standing += 1 if puts else -1
    return deeds
