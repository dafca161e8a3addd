"""A shelf on which keys stand in order."""

from looseshelf.errors import BadDeed, BadKey
from looseshelf.rules import after_deed, can_be_done, check_rule, check_width


class Shelf:
    """Keys that rise with their places; one rule says which of them make room."""

    def __init__(self, rule, wide):
        check_rule(rule)
        check_width(wide)
        self.rule = rule
        self.wide = wide
        self.ranked = []
        self.places = []
        self.total = 0

    def put_in(self, key):
        """Puts a key in where it belongs, and tells how many others are moved."""
        if key in self.ranked:
            raise BadKey("the key stands there already")
        rank = len([other for other in self.ranked if other < key])
        deed = ("put", rank)
        if not can_be_done(self.wide, len(self.places), deed):
            raise BadDeed(0)
        moves, self.places = after_deed(self.rule, self.wide, self.places, deed)
        self.ranked.insert(rank, key)
        self.total += moves
        return moves

    def take_out(self, key):
        """Takes a key out; none is moved."""
        if key not in self.ranked:
            raise BadKey("the key does not stand there")
        rank = self.ranked.index(key)
        del self.ranked[rank]
        del self.places[rank]

    def standing(self):
        """The key in each place, None for none, in a new list."""
        row = [None] * self.wide
        for at, key in zip(self.places, self.ranked):
            row[at] = key
        return row

    def moved(self):
        """How many were moved in all."""
        return self.total
