"""Point 1 over the whole program: every question again, behind other questions, refusals and changed answers."""

import copy
import unittest

from looseshelf.errors import ShelfError
from looseshelf.fewest import fewest
from looseshelf.purses import purse, shows
from looseshelf.rules import done, played
from looseshelf.shelves import Shelf
from looseshelf.worst import worst
from tests import model


def questions():
    """(call, arguments) of questions that have an answer, made anew each time."""
    for wide in model.WIDTHS:
        yield fewest, (wide, model.some_deeds(wide, 12, wide))
        for rule in model.RULES:
            yield done, (rule, "1" + "0" * (wide - 1), ("take", 0))
            yield played, (rule, wide, model.some_deeds(wide, 100, wide))
            yield worst, (rule, wide)
            yield purse, (rule, wide)
            yield shows, (rule, wide, 20, 1, [(pattern, 0) for pattern in model.patterns(wide)])
            yield shows, (rule, wide, 0, 1, [(pattern, 5) for pattern in model.patterns(wide)])


def wrong_questions():
    """(call, arguments) of questions that are refused."""
    for wide in model.WIDTHS:
        yield fewest, (wide, [("put", 0)] * 13)
        yield fewest, (wide + 6, [])
        yield Shelf, ("near", wide - 6 * wide)
        yield shows, ("left", wide, -1, 1, [])
        yield shows, ("left", wide, 0, 0, [])
        yield shows, ("left", -wide, 0, 1, [])
        for call in (worst, purse):
            yield call, ("odd", wide)
            yield call, ("even", wide + 6)
        for rule in model.RULES:
            yield done, (rule, "1" * wide, ("put", 0))
            yield done, (rule, "1" * wide + "x", ("take", 0))
            yield played, (rule, wide, [("put", 0), ("take", 1)])


def spoil(told):
    """Changes every list that was told."""
    for each in told if type(told) is tuple else ():
        if type(each) is list:
            each.append("spoiled")
            each.reverse()


class TheSameQuestion(unittest.TestCase):
    def test_behind_changed_answers_and_refusals(self):
        first = []
        for call, args in questions():
            told = call(*args)
            first.append(copy.deepcopy(told))
            spoil(told)
        for call, args in wrong_questions():
            with self.assertRaises(ShelfError, msg=(call, args)):
                call(*args)
        self.assertEqual([call(*args) for call, args in questions()], first)

    def test_what_is_handed_in_stays_as_it_was(self):
        for call, args in [*questions(), *wrong_questions()]:
            kept = copy.deepcopy(args)
            try:
                told = call(*args)
            except ShelfError:
                told = None
            spoil(told)
            self.assertEqual(args, kept, call)


if __name__ == "__main__":
    unittest.main()
