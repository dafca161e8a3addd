"""What a deed does to a pattern by each of the rules."""

from looseshelf.errors import BadDeed, BadPattern, BadRule, BadWidth
from looseshelf.laying import count_moved, with_new_one

RULES = ("near", "left", "even")
MOST_PLACES = 6


def done(rule, pattern, deed):
    """How many the deed moves, and the pattern behind it."""
    check_rule(rule)
    check_pattern(pattern)
    wide = len(pattern)
    places = places_of(pattern)
    if not can_be_done(wide, len(places), deed):
        raise BadDeed(0)
    moves, laid = after_deed(rule, wide, places, deed)
    return moves, pattern_of(wide, laid)


def played(rule, wide, deeds):
    """How many each deed moves, from the empty shelf on, and the pattern behind all."""
    check_rule(rule)
    check_width(wide)
    told = []
    places = []
    for number, deed in enumerate(deeds):
        if not can_be_done(wide, len(places), deed):
            raise BadDeed(number)
        moves, places = after_deed(rule, wide, places, deed)
        told.append(moves)
    return told, pattern_of(wide, places)


def check_rule(rule):
    """Refuses a text that names no rule."""
    if rule not in RULES:
        raise BadRule("a rule is near, left or even")


def check_width(wide):
    """Refuses a count of places that no shelf has."""
    if not 1 <= wide <= MOST_PLACES:
        raise BadWidth("a shelf has 1 to 6 places")


def check_pattern(pattern):
    """Refuses a text that is no pattern."""
    if pattern == "":
        raise BadPattern(0)
    for at, sign in enumerate(pattern):
        if at == MOST_PLACES or sign not in ("0", "1"):
            raise BadPattern(at)


def places_of(pattern):
    """The taken places of a pattern, by rank."""
    return [at for at, sign in enumerate(pattern) if sign == "1"]


def pattern_of(wide, places):
    """The pattern in which just these places are taken."""
    return "".join(["1" if at in places else "0" for at in range(wide)])


def can_be_done(wide, many, deed):
    """Whether there is such a rank where so many stand and, for a putting in, a free place."""
    what, rank = deed
    if what == "put":
        return 0 <= rank <= many < wide
    return what == "take" and 0 <= rank < many


def after_deed(rule, wide, places, deed):
    """How many a deed that can be done moves, and the places taken behind it, in a new list."""
    what, rank = deed
    if what == "take":
        return 0, places[:rank] + places[rank + 1:]
    laid = with_new_one(rule, wide, places, rank)
    return count_moved(places, laid, rank), laid
