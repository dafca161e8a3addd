"""Point 10: the fewest moves by anybody who knew all deeds ahead."""

import inspect
import itertools
import unittest

from looseshelf.errors import BadDeed, BadWidth
from looseshelf.fewest import fewest
from looseshelf.rules import played
from tests import model, rounds
from tests.test_done import refusal
from tests.test_played import NO_WIDTHS

# A full shelf, from which one is taken out at one end and put in at the other.
ACROSS = [("take", 0), ("put", 5), ("take", 5), ("put", 0), ("take", 0), ("put", 5)]


def good_lists(wide, many):
    """Every list of so many deeds that can be done from an empty shelf."""
    lists = [([], 0)]
    for _ in range(many):
        longer = []
        for deeds, standing in lists:
            if standing < wide:
                longer += [(deeds + [("put", rank)], standing + 1) for rank in range(standing + 1)]
            longer += [(deeds + [("take", rank)], standing - 1) for rank in range(standing)]
        lists = longer
    return [deeds for deeds, _ in lists]


class WhatIsTold(unittest.TestCase):
    def moved_by(self, wide, deeds, patterns):
        """How many are moved if these patterns stand behind the deeds; each must be one that may stand there."""
        self.assertEqual(len(patterns), len(deeds))
        row, total = [None] * wide, 0
        for name, (deed, pattern) in enumerate(zip(deeds, patterns)):
            self.assertIn(pattern, model.patterns(wide))
            fit = [new for new in rounds.rows_laid(wide, row, deed, name) if model.pattern_of(new) == pattern]
            self.assertEqual(len(fit), 1, (deeds, patterns, name))
            total += model.moves(row, fit[0])
            row = fit[0]
        return total

    def hold(self, wide, deeds):
        moves, patterns = fewest(wide, deeds)
        self.assertEqual(moves, rounds.fewest_of_all(wide, deeds), (wide, deeds))
        self.assertEqual(self.moved_by(wide, deeds, patterns), moves, (wide, deeds, patterns))
        for rule in model.RULES:
            self.assertLessEqual(moves, sum(played(rule, wide, deeds)[0]), (rule, wide, deeds))

    def test_the_empty_list(self):
        for wide in model.WIDTHS:
            self.assertEqual(fewest(wide, []), (0, []))

    def test_by_hand(self):
        self.assertEqual(fewest(1, [("put", 0), ("take", 0), ("put", 0)]), (0, ["1", "0", "1"]))
        self.assertEqual(fewest(2, [("put", 0), ("put", 0)]), (0, ["01", "11"]))
        self.assertEqual(fewest(2, [("put", 0), ("put", 1)]), (0, ["10", "11"]))
        self.assertEqual(fewest(3, [("put", 0), ("put", 0), ("put", 0)]), (0, ["001", "011", "111"]))
        across = [("put", 0), ("put", 0), ("take", 0), ("put", 1)]
        self.assertEqual(fewest(2, across), (1, ["01", "11", "01", "11"]))
        self.assertEqual(fewest(3, across)[0], 0)
        self.assertEqual(fewest(3, [("put", 0)] * 3 + [("take", 0), ("put", 2)])[0], 2)
        self.assertEqual(fewest(6, [("put", 0)] * 6 + ACROSS)[0], 15)

    def test_every_short_list(self):
        for wide, most in ((1, 8), (2, 6), (3, 5), (4, 4), (5, 4), (6, 4)):
            for many in range(most + 1):
                for deeds in good_lists(wide, many):
                    self.hold(wide, deeds)

    def test_some_long_lists(self):
        for wide in model.WIDTHS:
            for many in (8, 11, 12):
                for seed in range(6):
                    self.hold(wide, model.some_deeds(wide, many, seed))

    def test_full_shelves_and_their_ends(self):
        for wide in model.WIDTHS:
            fill = [("put", 0)] * wide
            last = wide - 1
            for tail in ([("take", 0), ("put", last)], [("take", last), ("put", 0)], [("take", last // 2), ("put", 0)],
                         [("take", 0), ("put", last)] * 3, [("take", 0)] * wide, [("take", last), ("put", last)]):
                self.hold(wide, (fill + tail)[:12])

    def test_kinds_of_what_is_told(self):
        for deeds in ([], [("put", 0)], [("put", 0), ("take", 0)], [("put", 0)] * 4):
            told = fewest(4, deeds)
            self.assertIs(type(told), tuple)
            self.assertEqual([type(each) for each in told], [int, list])
            self.assertEqual([type(each) for each in told[1]], [str] * len(deeds))

    def test_the_same_question_has_the_same_answer(self):
        asked = [(wide, model.some_deeds(wide, 9, wide)) for wide in model.WIDTHS]
        told = [fewest(*each) for each in asked]
        self.assertEqual([fewest(*each) for each in reversed(asked)], told[::-1])


class WhatIsHandedInAndTold(unittest.TestCase):
    def test_the_list_handed_in_stays_as_it_was(self):
        for wide in model.WIDTHS:
            deeds = model.some_deeds(wide, 12, 3)
            kept = list(deeds)
            fewest(wide, deeds)
            self.assertEqual(deeds, kept)
            for bad in (("take", 99), ("put", 0)):
                refusal(fewest, wide, kept + [bad])
                deeds.append(bad)
                refusal(fewest, wide, deeds)
                self.assertEqual(deeds, kept + [bad])
                deeds.pop()

    def test_the_list_handed_in_may_be_changed_behind(self):
        deeds = [("put", 0), ("put", 0)]
        told = fewest(2, deeds)
        deeds.clear()
        self.assertEqual(told, (0, ["01", "11"]))
        self.assertEqual(fewest(2, deeds), (0, []))

    def test_the_list_told_may_be_changed(self):
        for deeds in ([], [("put", 0)], [("put", 0)] * 5):
            kept = list(deeds)
            told = fewest(5, deeds)
            right = (told[0], list(told[1]))
            told[1].append("no")
            told[1].reverse()
            self.assertEqual(deeds, kept)
            self.assertEqual(fewest(5, deeds), right)


class WhatIsRefused(unittest.TestCase):
    def bad_number(self, wide, deeds):
        error = refusal(fewest, wide, deeds)
        self.assertIs(type(error), BadDeed, (wide, deeds))
        self.assertIs(type(error.number), int)
        return error.number

    def test_every_short_list_of_deeds(self):
        for wide in (1, 2, 3):
            ranks = range(-1, wide + 2)
            deeds = [(what, rank) for what in ("put", "take") for rank in ranks] + [("turn", 0)]
            for many in range(4):
                for listed in itertools.product(deeds, repeat=many):
                    listed = list(listed)
                    first = self.first_bad(wide, listed)
                    if first is None:
                        fewest(wide, listed)
                    else:
                        self.assertEqual(self.bad_number(wide, listed), first, (wide, listed))

    def first_bad(self, wide, deeds):
        row = [None] * wide
        for number, deed in enumerate(deeds):
            if not model.can_be_done(row, deed):
                return number
            row = model.after("left", row, deed, number)
        return None

    def test_the_number_of_the_first_bad_deed(self):
        for wide in model.WIDTHS:
            good = model.some_deeds(wide, 12, wide)
            for number in range(12):
                for bad in (("put", -1), ("take", 6), ("turn", 0), ("", 0)):
                    deeds = good[:number] + [bad] + [("take", -1)] * (11 - number)
                    self.assertEqual(self.bad_number(wide, deeds), number)
                    self.assertEqual(self.bad_number(wide, deeds + [("put", 0)] * 5), number)

    def test_a_full_shelf_and_an_empty_one(self):
        for wide in model.WIDTHS:
            fill = [("put", 0)] * wide
            self.assertEqual(fewest(wide, fill)[1][-1], "1" * wide)
            for rank in range(wide + 1):
                self.assertEqual(self.bad_number(wide, fill + [("put", rank)]), wide)
            self.assertEqual(self.bad_number(wide, [("take", 0)]), 0)
            if wide < 6:
                drain = fill + [("take", 0)] * wide
                self.assertEqual(fewest(wide, drain)[1][-1], "0" * wide)
                self.assertEqual(self.bad_number(wide, drain + [("take", 0)]), 2 * wide)

    def test_twelve_are_let_go_and_a_thirteenth_is_refused(self):
        for wide in model.WIDTHS:
            for seed in range(5):
                deeds = model.some_deeds(wide, 40, seed)
                self.assertEqual(len(fewest(wide, deeds[:12])[1]), 12)
                for many in (13, 14, 20, 40):
                    self.assertEqual(self.bad_number(wide, deeds[:many]), 12)
                self.assertEqual(self.bad_number(wide, deeds[:12] + [("take", 9)]), 12)
                self.assertEqual(self.bad_number(wide, deeds[:11] + [("take", 9), ("take", 9)]), 11)

    def test_widths_that_are_none(self):
        for wide in NO_WIDTHS:
            for deeds in ([], [("put", 0)], [("take", 0)], [("put", 0), ("take", 0)] * 7):
                self.assertIs(type(refusal(fewest, wide, deeds)), BadWidth)


class Interface(unittest.TestCase):
    def test_names_and_arguments(self):
        self.assertEqual(list(inspect.signature(fewest).parameters), ["wide", "deeds"])
        self.assertEqual(fewest(wide=1, deeds=[("put", 0)]), (0, ["1"]))

    def test_defined_in_the_file_that_lists_it(self):
        self.assertEqual(fewest.__module__, "looseshelf.fewest")


if __name__ == "__main__":
    unittest.main()
