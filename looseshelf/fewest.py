"""The fewest that must be moved by anybody who knew all deeds ahead."""

from looseshelf.errors import BadDeed
from looseshelf.laying import count_moved
from looseshelf.rules import can_be_done, check_width, pattern_of, places_of

MOST_DEEDS = 12


def fewest(wide, deeds):
    """The fewest moves of all deeds, and a pattern behind each by which so many are moved."""
    check_width(wide)
    check_deeds(wide, deeds)
    # Of each pattern that may stand now: the fewest moves that lead to it, and the patterns behind the deeds so far.
    best = {"0" * wide: (0, [])}
    for deed in deeds:
        best = best_behind(wide, best, deed)
    return min(list(best.values()), key=lambda told: told[0])


def check_deeds(wide, deeds):
    """Refuses the first deed that can't be done, or is one too many."""
    many = 0
    for number, deed in enumerate(deeds):
        if number == MOST_DEEDS or not can_be_done(wide, many, deed):
            raise BadDeed(number)
        many += 1 if deed[0] == "put" else -1


def best_behind(wide, best, deed):
    """The fewest moves and the patterns, as `best` holds them, for each pattern that may stand behind the deed."""
    behind = {}
    for pattern, (moves, patterns) in best.items():
        for moved, laid in layings(wide, pattern, deed):
            if laid not in behind or moves + moved < behind[laid][0]:
                behind[laid] = (moves + moved, patterns + [laid])
    return behind


def layings(wide, pattern, deed):
    """How many are moved, and the pattern behind, for each way in which all may be laid at this deed."""
    what, rank = deed
    places = places_of(pattern)
    if what == "take":
        return [(0, pattern_of(wide, places[:rank] + places[rank + 1:]))]
    laid = [row for row in patterns_of(wide) if row.count("1") == len(places) + 1]
    return [(count_moved(places, places_of(row), rank), row) for row in laid]


def patterns_of(wide):
    """Every pattern of so many places."""
    patterns = [""]
    for at in range(wide):
        patterns = [pattern + sign for pattern in patterns for sign in ("0", "1")]
    return patterns
