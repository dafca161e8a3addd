"""A second telling of points 7 to 10, over the rows of tests.model, to hold the program against.

The greatest part is found here by the longest walks of each length (Karp), and by meeting every round there is;
the fewest moves by looking back from the last deed over all layings.
"""

import functools
import itertools
from fractions import Fraction

from tests import model


@functools.cache
def graph(rule, wide):
    """Of each pattern all deeds that can be done there: (deed, moves, pattern behind)."""
    steps = {}
    for pattern in model.patterns(wide):
        row = model.row_of(pattern)
        steps[pattern] = []
        for deed in model.deeds_of(row):
            behind = model.after(rule, row, deed, -1)
            steps[pattern].append((deed, model.moves(row, behind), model.pattern_of(behind)))
    return steps


def step(rule, pattern, deed):
    """(moves, pattern behind) of one deed that can be done there."""
    for each, moves, behind in graph(rule, len(pattern))[pattern]:
        if each == deed:
            return moves, behind
    raise AssertionError(f"{deed} can't be done at {pattern}")


def way_to(rule, wide, goal):
    """A shortest list of deeds from the empty shelf to this pattern, None if a shelf never comes to it."""
    ways = {"0" * wide: []}
    for pattern in ways_in_turn(ways):
        for deed, _, behind in graph(rule, wide)[pattern]:
            ways.setdefault(behind, ways[pattern] + [deed])
    return ways.get(goal)


def ways_in_turn(ways):
    """The patterns as they are added, one by one, while more come in."""
    at = 0
    while at < len(ways):
        yield list(ways)[at]
        at += 1


def part_by_walks(rule, wide):
    """The greatest part of moves by deeds, from the longest walks of each length from the empty pattern."""
    steps = graph(rule, wide)
    many = len(steps)
    longest = [{"0" * wide: 0}]
    for _ in range(many):
        row = {}
        for pattern, moves in longest[-1].items():
            for _, more, behind in steps[pattern]:
                row[behind] = max(row.get(behind, 0), moves + more)
        longest.append(row)
    parts = []
    for pattern, moves in longest[many].items():
        parts.append(min(Fraction(moves - longest[k][pattern], many - k)
                         for k in range(many) if pattern in longest[k]))
    return max(parts)


def part_by_all_rounds(rule, wide):
    """The greatest part of moves by deeds of all rounds that meet no pattern twice."""
    steps = graph(rule, wide)
    best = Fraction(-1)

    def go_on(first, pattern, met, moves):
        nonlocal best
        for _, more, behind in steps[pattern]:
            if behind == first:
                best = max(best, Fraction(moves + more, len(met)))
            elif behind > first and behind not in met:
                go_on(first, behind, met | {behind}, moves + more)

    for first in steps:
        go_on(first, first, {first}, 0)
    return best


def is_purse(rule, wide, moves, deeds, told):
    """Point 8, in its words."""
    steps = graph(rule, wide)
    if len({pattern for pattern, _ in told}) != len(told):
        return False
    coins = dict(told)
    if "0" * wide not in coins or any(pattern not in steps for pattern in coins):
        return False
    if any(many < 0 for many in coins.values()):
        return False
    for pattern, many in coins.items():
        for _, moved, behind in steps[pattern]:
            if behind not in coins or coins[behind] > many + moves - deeds * moved:
                return False
    return True


def least_coins(rule, wide, moves, deeds):
    """The fewest coins of a purse for this part; None if no coins are enough."""
    steps = graph(rule, wide)
    coins = {pattern: 0 for pattern in steps}
    for _ in range(len(steps) + 1):
        asked = {pattern: max([0] + [coins[behind] + deeds * moved - moves for _, moved, behind in steps[pattern]])
                 for pattern in steps}
        if asked == coins:
            return coins
        coins = asked
    return None


def rows_laid(wide, row, deed, name):
    """Every row that may stand behind a deed, if at a putting in all may be laid anywhere in their order."""
    what, rank = deed
    if what == "take":
        return [model.take(row, rank)]
    order = model.names(row)
    order = order[:rank] + [name] + order[rank:]
    laid = []
    for places in itertools.combinations(range(wide), len(order)):
        new = [None] * wide
        for place, each in zip(places, order):
            new[place] = each
        laid.append(new)
    return laid


def fewest_of_all(wide, deeds):
    """The fewest moves, by a look at each row that may ever stand."""
    @functools.cache
    def from_here(number, row):
        if number == len(deeds):
            return 0
        return min(model.moves(list(row), new) + from_here(number + 1, tuple(new))
                   for new in rows_laid(wide, list(row), deeds[number], number))

    return from_here(0, (None,) * wide)
