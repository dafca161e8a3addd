"""Points 1 to 5: patterns, deeds, rules, and what `done` tells."""

import inspect
import unittest

from looseshelf import rules
from looseshelf.errors import BadDeed, BadPattern, BadRule
from looseshelf.rules import done
from tests import model

NO_RULES = ("", "Near", "NEAR", "near ", " left", "lef", "right", "nearleft", "near,left", "evenly", "ea")

NO_PATTERNS = (
    ("", 0),
    ("2", 0), ("x", 0), (" ", 0), ("-", 0), ("\n", 0),
    ("0x", 1), ("1 ", 1), ("01\n", 2), ("0101 1", 4), ("00000x", 5), ("x1111x", 0), ("0xx", 1),
    ("\u0660", 0), ("1\uff11", 1), ("\u00b9", 0), ("0O1l", 1),
    ("0000000", 6), ("1111111", 6), ("000000x", 6), ("0000001x", 6), ("01010101010101", 6),
    ("x000000", 0), ("00x0000", 2), ("00000x0", 5), ("00000x0x", 5), ("0" * 200, 6), ("0" * 200 + "x", 6),
)

# rule, pattern, deed, moves, pattern behind
BY_HAND = (
    # Room between: (low + high) // 2, by every rule.
    ("near", "0", ("put", 0), 0, "1"),
    ("near", "00", ("put", 0), 0, "10"),
    ("near", "000", ("put", 0), 0, "010"),
    ("near", "0000", ("put", 0), 0, "0100"),
    ("near", "00000", ("put", 0), 0, "00100"),
    ("near", "000000", ("put", 0), 0, "001000"),
    ("left", "000000", ("put", 0), 0, "001000"),
    ("even", "000000", ("put", 0), 0, "001000"),
    ("near", "001000", ("put", 0), 0, "101000"),
    ("near", "001000", ("put", 1), 0, "001010"),
    ("even", "010000", ("put", 0), 0, "110000"),
    ("left", "100001", ("put", 1), 0, "101001"),
    ("even", "100010", ("put", 1), 0, "101010"),
    ("even", "111101", ("put", 4), 0, "111111"),
    # As far off on both sides: the one ahead; as far off or not, "left" takes the one ahead.
    ("near", "0110", ("put", 1), 1, "1110"),
    ("left", "0110", ("put", 1), 1, "1110"),
    ("near", "011110", ("put", 2), 2, "111110"),
    ("left", "011110", ("put", 2), 2, "111110"),
    ("near", "001100", ("put", 1), 1, "011100"),
    # One side is nearer.
    ("near", "011100", ("put", 2), 1, "011110"),
    ("left", "011100", ("put", 2), 2, "111100"),
    ("near", "001110", ("put", 1), 1, "011110"),
    ("left", "001110", ("put", 1), 1, "011110"),
    ("near", "011110", ("put", 3), 1, "011111"),
    ("left", "011110", ("put", 3), 3, "111110"),
    ("near", "101101", ("put", 2), 1, "111101"),
    ("left", "101110", ("put", 4), 0, "101111"),
    # None on one side.
    ("near", "1110", ("put", 0), 3, "1111"),
    ("left", "1110", ("put", 0), 3, "1111"),
    ("near", "1110", ("put", 1), 2, "1111"),
    ("left", "1110", ("put", 1), 2, "1111"),
    ("near", "0111", ("put", 3), 3, "1111"),
    ("left", "0111", ("put", 3), 3, "1111"),
    ("near", "0111", ("put", 1), 1, "1111"),
    ("near", "000011", ("put", 2), 2, "000111"),
    ("left", "110000", ("put", 0), 2, "111000"),
    # "even" lays all anew, and only where there is no room between.
    ("even", "110000", ("put", 0), 2, "101010"),
    ("even", "110000", ("put", 1), 1, "101010"),
    ("even", "110000", ("put", 2), 0, "110100"),
    ("even", "000011", ("put", 2), 2, "101010"),
    ("even", "011100", ("put", 2), 3, "110110"),
    ("even", "0110", ("put", 1), 1, "1110"),
    ("even", "10", ("put", 0), 1, "11"),
    ("even", "01", ("put", 1), 1, "11"),
    ("even", "111110", ("put", 0), 5, "111111"),
    ("even", "111110", ("put", 3), 2, "111111"),
    ("even", "11110", ("put", 4), 0, "11111"),
    # A taking out moves none.
    ("near", "1", ("take", 0), 0, "0"),
    ("left", "111111", ("take", 3), 0, "111011"),
    ("even", "010011", ("take", 0), 0, "000011"),
    ("even", "010011", ("take", 2), 0, "010010"),
)


def refusal(call, *args):
    """The error that a call is refused with."""
    try:
        call(*args)
    except ValueError as error:
        return error
    raise AssertionError(f"{args} was not refused")


class WhatDeedsDo(unittest.TestCase):
    def test_by_hand(self):
        for rule, pattern, deed, moves, behind in BY_HAND:
            with self.subTest(rule=rule, pattern=pattern, deed=deed):
                self.assertEqual(done(rule, pattern, deed), (moves, behind))

    def test_every_rule_pattern_and_deed(self):
        many = 0
        for rule in model.RULES:
            for wide in model.WIDTHS:
                for pattern in model.patterns(wide):
                    row = model.row_of(pattern)
                    for deed in model.deeds_of(row):
                        behind = model.after(rule, row, deed, -1)
                        told = (model.moves(row, behind), model.pattern_of(behind))
                        self.assertEqual(done(rule, pattern, deed), told, (rule, pattern, deed))
                        many += 1
        # Each pattern with k taken has k takings out and, unless it is full, k + 1 puttings in.
        self.assertEqual(many, 3 * sum(p.count("1") + ("0" in p) * (p.count("1") + 1)
                                       for wide in model.WIDTHS for p in model.patterns(wide)))

    def test_none_is_moved_where_there_is_room(self):
        for wide in model.WIDTHS:
            for pattern in model.patterns(wide):
                ends = [-1] + [at for at in range(wide) if pattern[at] == "1"] + [wide]
                for rank, (low, high) in enumerate(zip(ends, ends[1:])):
                    if high - low == 1:
                        continue
                    new = (low + high) // 2
                    behind = pattern[:new] + "1" + pattern[new + 1:]
                    for rule in model.RULES:
                        self.assertEqual(done(rule, pattern, ("put", rank)), (0, behind))

    def test_near_moves_no_more_than_left(self):
        for wide in model.WIDTHS:
            for pattern in model.patterns(wide):
                for deed in model.deeds_of(model.row_of(pattern)):
                    near, left = done("near", pattern, deed)[0], done("left", pattern, deed)[0]
                    self.assertLessEqual(near, left, (pattern, deed))

    def test_even_lays_all_as_told(self):
        for wide in model.WIDTHS:
            for pattern in model.patterns(wide):
                row = model.row_of(pattern)
                for what, rank in model.deeds_of(row):
                    behind = done("even", pattern, (what, rank))[1]
                    if what == "take" or done("near", pattern, (what, rank))[0] == 0:
                        continue
                    many = pattern.count("1") + 1
                    laid = [k * wide // many for k in range(many)]
                    self.assertEqual([at for at in range(wide) if behind[at] == "1"], laid)

    def test_kinds_of_what_is_told(self):
        for deed in (("put", 1), ("put", 0), ("take", 1)):
            for rule in model.RULES:
                told = done(rule, "0110", deed)
                self.assertIs(type(told), tuple)
                self.assertEqual([type(each) for each in told], [int, str])

    def test_the_same_question_has_the_same_answer(self):
        asked = [(rule, pattern, deed) for rule in model.RULES for pattern in model.patterns(4)
                 for deed in model.deeds_of(model.row_of(pattern))]
        told = [done(*each) for each in asked]
        self.assertEqual([done(*each) for each in reversed(asked)], told[::-1])


class WhatIsRefused(unittest.TestCase):
    def test_deeds_that_cannot_be_done(self):
        for wide in model.WIDTHS:
            for pattern in model.patterns(wide):
                for deed in model.not_deeds_of(model.row_of(pattern)):
                    for rule in model.RULES:
                        error = refusal(done, rule, pattern, deed)
                        self.assertIs(type(error), BadDeed, (rule, pattern, deed))
                        self.assertEqual(error.number, 0)

    def test_edges_of_deeds(self):
        for pattern, deed in (("0", ("take", 0)), ("1", ("put", 0)), ("1", ("put", 1)), ("1", ("take", 1)),
                              ("10", ("put", 2)), ("10", ("put", -1)), ("10", ("take", -1)),
                              ("111111", ("put", 6)), ("111111", ("put", 3)), ("111111", ("take", 6)),
                              ("0110", ("put", 3)), ("0110", ("take", 2)), ("10", ("shift", 0))):
            self.assertIs(type(refusal(done, "near", pattern, deed)), BadDeed, (pattern, deed))

    def test_texts_that_are_no_rule(self):
        for rule in NO_RULES:
            # No rule is asked where a deed moves none, but the text is refused there as well.
            for pattern, deed in (("0110", ("put", 1)), ("000", ("put", 0)), ("1", ("take", 0))):
                self.assertIs(type(refusal(done, rule, pattern, deed)), BadRule, (rule, deed))

    def test_texts_that_are_no_pattern(self):
        for pattern, at in NO_PATTERNS:
            error = refusal(done, "near", pattern, ("put", 0))
            self.assertIs(type(error), BadPattern, pattern)
            self.assertEqual(error.at, at, pattern)
            self.assertIs(type(error.at), int)

    def test_each_sign_of_each_pattern(self):
        for wide in model.WIDTHS:
            for pattern in model.patterns(wide):
                for at in range(wide):
                    for sign in ("2", "x", " ", "10"[int(pattern[at])] + "_"):
                        wrong = pattern[:at] + sign + pattern[at + 1:]
                        first = at + len(sign) - 1
                        self.assertEqual(refusal(done, "even", wrong, ("put", 0)).at, first, wrong)

    def test_six_signs_are_a_pattern_and_seven_none(self):
        for pattern in model.patterns(6):
            self.assertEqual(len(done("left", pattern, model.deeds_of(model.row_of(pattern))[0])[1]), 6)
            for sign in ("0", "1", "x"):
                self.assertEqual(refusal(done, "left", pattern + sign, ("put", 0)).at, 6)

    def test_of_several_the_first_is_refused(self):
        self.assertIs(type(refusal(done, "nigh", "", ("put", 0))), BadRule)
        self.assertIs(type(refusal(done, "nigh", "01x", ("put", 9))), BadRule)
        self.assertIs(type(refusal(done, "nigh", "01", ("put", 9))), BadRule)
        self.assertIs(type(refusal(done, "near", "01x", ("put", 9))), BadPattern)
        self.assertIs(type(refusal(done, "near", "", ("take", 0))), BadPattern)
        self.assertIs(type(refusal(done, "even", "0000000", ("turn", 0))), BadPattern)


class Interface(unittest.TestCase):
    def test_names_and_arguments(self):
        self.assertEqual(list(inspect.signature(rules.done).parameters), ["rule", "pattern", "deed"])
        self.assertEqual(list(inspect.signature(rules.played).parameters), ["rule", "wide", "deeds"])
        self.assertEqual(done(rule="near", pattern="0110", deed=("put", 1)), (1, "1110"))

    def test_defined_in_the_file_that_lists_them(self):
        for each in (rules.done, rules.played):
            self.assertEqual(each.__module__, "looseshelf.rules")


if __name__ == "__main__":
    unittest.main()
