"""How much is moved in the long run at the worst, and deeds that go round and do it."""

from looseshelf.rules import can_be_done, check_rule, check_width, done


def worst(rule, wide):
    """The greatest part of moves by deeds that go round, a pattern, and deeds that go round from it with this part."""
    check_rule(rule)
    check_width(wide)
    moves, deeds, around, coins = long_run(all_steps(rule, wide))
    return moves, deeds, around[0][0], [step[1] for step in around]


def all_steps(rule, wide):
    """The steps from each pattern to which a shelf comes from the empty one."""
    steps = {}
    ahead = ["0" * wide]
    while ahead:
        pattern = ahead.pop()
        if pattern not in steps:
            steps[pattern] = steps_from(rule, pattern)
            ahead.extend([step[3] for step in steps[pattern]])
    return steps


def steps_from(rule, pattern):
    """A step for each deed that can be done there: (pattern, deed, how many it moves, pattern behind)."""
    wide = len(pattern)
    many = pattern.count("1")
    steps = []
    for deed in [(what, rank) for what in ("put", "take") for rank in range(wide)]:
        if can_be_done(wide, many, deed):
            moved, behind = done(rule, pattern, deed)
            steps.append((pattern, deed, moved, behind))
    return steps


def long_run(steps):
    """The greatest part of moves by deeds, steps that go round with it, and the coins that show it is the greatest."""
    # Lower than any part, so that steps that go round are found even where none is ever moved.
    moves, deeds, around = -1, 1, []
    coins, greater = coins_asked(steps, moves, deeds)
    while greater:
        around = greater
        moves, deeds = part_of(around)
        coins, greater = coins_asked(steps, moves, deeds)
    return moves, deeds, around, coins


def part_of(around):
    """The part of moves by deeds of these steps, in the lowest numbers."""
    moves = sum([step[2] for step in around])
    divisor, rest = len(around), moves
    while rest > 0:
        divisor, rest = rest, divisor % rest
    return moves // divisor, len(around) // divisor


def coins_asked(steps, moves, deeds):
    """The fewest coins of each pattern that pay for all to come, and steps that go round with a greater part, if any.

    Each deed brings as many coins as moves, and each one moved costs as many as deeds. Where steps go round with
    a greater part no coins are enough, and those that are told mean nothing; else the steps told are [].
    """
    coins = {pattern: 0 for pattern in steps}
    dearest = {}
    risen = None
    # So many passes are enough for all walks that meet no pattern twice: whatever rises in the last one goes round.
    for turn in range(len(steps)):
        risen = raised(steps, moves, deeds, coins, dearest)
        if risen is None:
            return coins, []
    return coins, gone_round(dearest, risen)


def raised(steps, moves, deeds, coins, dearest):
    """Raises the coins of each pattern to what its steps ask for; tells one for which they rose, None for none."""
    risen = None
    for ways in steps.values():
        for step in ways:
            pattern, deed, moved, behind = step
            asked = coins[behind] + deeds * moved - moves
            if asked > coins[pattern]:
                coins[pattern] = asked
                dearest[pattern] = step
                risen = pattern
    return risen


def gone_round(dearest, pattern):
    """The steps that go round, into which the dearest steps from this pattern lead."""
    # The first ones may only lead to the round: behind so many the pattern is surely on it.
    for turn in range(len(dearest)):
        pattern = dearest[pattern][3]
    around = [dearest[pattern]]
    while around[-1][3] != pattern:
        around.append(dearest[around[-1][3]])
    return around
