"""Point 5: what `played` tells of many deeds, and what it refuses."""

import itertools
import unittest

from looseshelf.errors import BadDeed, BadRule, BadWidth
from looseshelf.rules import done, played
from tests import model
from tests.test_done import NO_RULES, refusal

NO_WIDTHS = (0, 7, -1, 8, -6, 100, -10 ** 30, 10 ** 30)


class WhatIsTold(unittest.TestCase):
    def test_the_empty_list(self):
        for rule in model.RULES:
            for wide in model.WIDTHS:
                self.assertEqual(played(rule, wide, []), ([], "0" * wide))

    def test_by_hand(self):
        ahead = [("put", 0)] * 4
        self.assertEqual(played("near", 4, ahead), ([0, 0, 2, 3], "1111"))
        self.assertEqual(played("left", 4, ahead), ([0, 0, 2, 3], "1111"))
        self.assertEqual(played("even", 4, ahead), ([0, 0, 2, 3], "1111"))
        self.assertEqual(played("near", 6, ahead + ahead[:2]), ([0, 0, 1, 3, 4, 5], "111111"))
        self.assertEqual(played("even", 6, ahead), ([0, 0, 2, 2], "110110"))
        self.assertEqual(played("even", 6, ahead + ahead[:2]), ([0, 0, 2, 2, 2, 5], "111111"))
        behind = [("put", 0), ("put", 1), ("put", 2), ("put", 3)]
        self.assertEqual(played("near", 4, behind), ([0, 0, 0, 3], "1111"))
        self.assertEqual(played("even", 4, behind), ([0, 0, 0, 3], "1111"))
        round_about = [("put", 0), ("put", 0), ("put", 1), ("take", 1), ("put", 1), ("take", 0), ("take", 0)]
        self.assertEqual(played("left", 4, round_about), ([0, 0, 1, 0, 0, 0, 0], "0010"))

    def test_every_short_list(self):
        for wide in (1, 2, 3):
            deeds = [(what, rank) for what in ("put", "take") for rank in range(wide + 1)]
            for many in range(5):
                for listed in itertools.product(deeds, repeat=many):
                    self.hold_against_model(wide, list(listed))

    def hold_against_model(self, wide, deeds):
        row, first_bad = [None] * wide, None
        for number, deed in enumerate(deeds):
            if not model.can_be_done(row, deed):
                first_bad = number
                break
            row = model.after("near", row, deed, number)
        for rule in model.RULES:
            if first_bad is None:
                self.assertEqual(played(rule, wide, deeds), model.played(rule, wide, deeds), (rule, deeds))
            else:
                error = refusal(played, rule, wide, deeds)
                self.assertIs(type(error), BadDeed)
                self.assertEqual(error.number, first_bad, (rule, wide, deeds))

    def test_long_lists(self):
        for wide in model.WIDTHS:
            for many in (1, 2, 7, 50, 99, 100):
                for seed in range(10):
                    deeds = model.some_deeds(wide, many, seed)
                    for rule in model.RULES:
                        told, behind = played(rule, wide, deeds)
                        self.assertEqual((told, behind), model.played(rule, wide, deeds))
                        self.assertEqual(len(told), many)

    def test_the_same_as_done_one_behind_the_other(self):
        for rule in model.RULES:
            for wide in model.WIDTHS:
                deeds = model.some_deeds(wide, 100, 77)
                pattern, told = "0" * wide, []
                for deed in deeds:
                    moves, pattern = done(rule, pattern, deed)
                    told.append(moves)
                self.assertEqual(played(rule, wide, deeds), (told, pattern))

    def test_more_than_a_hundred_are_no_error(self):
        deeds = model.some_deeds(6, 130, 5)
        self.assertEqual(played("near", 6, deeds), model.played("near", 6, deeds))

    def test_kinds_of_what_is_told(self):
        told = played("even", 6, [("put", 0)] * 6)
        self.assertIs(type(told), tuple)
        self.assertEqual([type(each) for each in told], [list, str])
        self.assertEqual({type(moves) for moves in told[0]}, {int})


class WhatIsHandedInAndTold(unittest.TestCase):
    def test_the_list_handed_in_stays_as_it_was(self):
        for rule in model.RULES:
            deeds = model.some_deeds(6, 100, 3)
            kept = list(deeds)
            played(rule, 6, deeds)
            self.assertEqual(deeds, kept)
            deeds.append(("take", 99))
            refusal(played, rule, 6, deeds)
            self.assertEqual(deeds, kept + [("take", 99)])

    def test_the_list_handed_in_may_be_changed_behind(self):
        deeds = [("put", 0), ("put", 0), ("put", 0)]
        told = played("near", 3, deeds)
        deeds.clear()
        self.assertEqual(told, ([0, 0, 2], "111"))
        self.assertEqual(played("near", 3, deeds), ([], "000"))

    def test_the_list_told_may_be_changed(self):
        for deeds in ([], [("put", 0), ("put", 0), ("put", 0)]):
            kept = list(deeds)
            first = played("near", 3, deeds)
            right = (list(first[0]), first[1])
            first[0].append(5)
            first[0].insert(0, "no")
            self.assertEqual(deeds, kept)
            self.assertEqual(played("near", 3, deeds), right)


class WhatIsRefused(unittest.TestCase):
    def test_the_number_of_the_first_bad_deed(self):
        for wide in model.WIDTHS:
            good = model.some_deeds(wide, 100, wide)
            for number in range(100):
                for bad in (("put", -1), ("take", 6), ("turn", 0)):
                    # What follows can't be done either, but is not the first.
                    deeds = good[:number] + [bad] + [("take", -1)] * (99 - number)
                    error = refusal(played, "near", wide, deeds)
                    self.assertIs(type(error), BadDeed)
                    self.assertEqual(error.number, number)
                    self.assertIs(type(error.number), int)

    def test_a_full_shelf_and_an_empty_one(self):
        for rule in model.RULES:
            for wide in model.WIDTHS:
                fill = [("put", 0)] * wide
                self.assertEqual(played(rule, wide, fill)[1], "1" * wide)
                self.assertEqual(refusal(played, rule, wide, fill + [("put", 0)]).number, wide)
                self.assertEqual(refusal(played, rule, wide, fill + [("put", wide)]).number, wide)
                drain = fill + [("take", 0)] * wide
                self.assertEqual(played(rule, wide, drain), (played(rule, wide, fill)[0] + [0] * wide, "0" * wide))
                self.assertEqual(refusal(played, rule, wide, drain + [("take", 0)]).number, 2 * wide)

    def test_rules_and_widths_that_are_none(self):
        for rule in NO_RULES:
            for wide in model.WIDTHS:
                for deeds in ([], [("put", 0)]):
                    self.assertIs(type(refusal(played, rule, wide, deeds)), BadRule)
        for wide in NO_WIDTHS:
            for rule in model.RULES:
                for deeds in ([], [("put", 0)]):
                    self.assertIs(type(refusal(played, rule, wide, deeds)), BadWidth)

    def test_of_several_the_first_is_refused(self):
        for wide in NO_WIDTHS:
            self.assertIs(type(refusal(played, "nigh", wide, [])), BadRule)
            self.assertIs(type(refusal(played, "nigh", wide, [("take", 0)])), BadRule)
            self.assertIs(type(refusal(played, "even", wide, [("take", 0)])), BadWidth)
        self.assertIs(type(refusal(played, "nigh", 3, [("take", 0)])), BadRule)


if __name__ == "__main__":
    unittest.main()
