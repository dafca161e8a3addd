"""Purses: coins for each pattern, by which it is seen that no more is moved in the long run."""

from looseshelf.errors import BadNumber
from looseshelf.rules import check_rule, check_width
from looseshelf.worst import all_steps, long_run, steps_from


def purse(rule, wide):
    """The greatest part of moves by deeds, and a purse that shows it."""
    check_rule(rule)
    check_width(wide)
    moves, deeds, around, coins = long_run(all_steps(rule, wide))
    return moves, deeds, list(coins.items())


def shows(rule, wide, moves, deeds, told):
    """Whether this is a purse that shows that no more than so many moves in so many deeds are done."""
    check_rule(rule)
    check_width(wide)
    check_part(moves, deeds)
    coins = {}
    for pattern, many in told:
        if many < 0 or pattern in coins or not is_pattern(wide, pattern):
            return False
        coins[pattern] = many
    if "0" * wide not in coins:
        return False
    return all([is_paid(coins, moves, deeds, step) for pattern in coins for step in steps_from(rule, pattern)])


def check_part(moves, deeds):
    """Refuses numbers of moves and deeds that are too low."""
    if moves < 0:
        raise BadNumber("moves are 0 or more")
    if deeds < 1:
        raise BadNumber("deeds are 1 or more")


def is_pattern(wide, text):
    """Whether the text is a pattern of so many places."""
    return len(text) == wide and all([sign in ("0", "1") for sign in text])


def is_paid(coins, moves, deeds, step):
    """Whether the pattern behind has coins, and no more of them than are left over."""
    pattern, deed, moved, behind = step
    return behind in coins and coins[behind] <= coins[pattern] + moves - deeds * moved
