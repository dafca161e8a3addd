"""Points 8 and 9: purses, what they show, and what follows from them."""

import inspect
import itertools
import math
import unittest
from fractions import Fraction

from looseshelf import purses
from looseshelf.errors import BadNumber, BadRule, BadWidth
from looseshelf.purses import purse, shows
from looseshelf.rules import done, played
from looseshelf.worst import worst
from tests import model, rounds
from tests.test_done import NO_RULES, refusal
from tests.test_played import NO_WIDTHS

EACH = [(rule, wide) for rule in model.RULES for wide in model.WIDTHS]
NO_MOVES = (-1, -2, -20, -10 ** 30)
NO_DEEDS = (0, -1, -20, -10 ** 30)


def least_purse(rule, wide):
    """A purse that the test has made itself: (moves, deeds, rows), with no coins to spare."""
    part = rounds.part_by_walks(rule, wide)
    moves, deeds = part.numerator, part.denominator
    return moves, deeds, list(rounds.least_coins(rule, wide, moves, deeds).items())


class WhatPurseTells(unittest.TestCase):
    def test_it_is_a_purse_in_the_words_of_point_8(self):
        for rule, wide in EACH:
            moves, deeds, rows = purse(rule, wide)
            self.assertTrue(rounds.is_purse(rule, wide, moves, deeds, rows), (rule, wide))

    def test_its_part_is_that_of_worst(self):
        for rule, wide in EACH:
            moves, deeds, _ = purse(rule, wide)
            self.assertEqual((moves, deeds), worst(rule, wide)[:2])
            self.assertEqual(Fraction(moves, deeds), rounds.part_by_walks(rule, wide))
            self.assertEqual(math.gcd(moves, deeds), 1)

    def test_shows_says_so(self):
        for rule, wide in EACH:
            self.assertIs(shows(rule, wide, *purse(rule, wide)), True, (rule, wide))

    def test_kinds_of_what_is_told(self):
        for rule, wide in EACH:
            told = purse(rule, wide)
            self.assertIs(type(told), tuple)
            self.assertEqual([type(each) for each in told], [int, int, list])
            for row in told[2]:
                self.assertIs(type(row), tuple)
                self.assertEqual([type(each) for each in row], [str, int])

    def test_the_same_question_has_the_same_answer(self):
        first = [purse(rule, wide) for rule, wide in EACH]
        self.assertEqual([purse(rule, wide) for rule, wide in reversed(EACH)], first[::-1])

    def test_what_is_told_may_be_changed(self):
        for rule, wide in EACH:
            told = purse(rule, wide)
            kept = (*told[:2], list(told[2]))
            told[2].append(("0" * wide, -5))
            told[2].reverse()
            told[2].clear()
            self.assertEqual(purse(rule, wide), kept)
            self.assertIs(shows(rule, wide, *kept), True)


class WhatIsAPurse(unittest.TestCase):
    def setUp(self):
        self.purses = [(rule, wide, *least_purse(rule, wide)) for rule, wide in EACH]

    def test_purses_of_the_tests_own(self):
        for rule, wide, moves, deeds, rows in self.purses:
            self.assertIs(shows(rule, wide, moves, deeds, rows), True, (rule, wide))

    def test_rows_in_another_order(self):
        for rule, wide, moves, deeds, rows in self.purses:
            self.assertIs(shows(rule, wide, moves, deeds, rows[::-1]), True)
            self.assertIs(shows(rule, wide, moves, deeds, rows[1:] + rows[:1]), True)

    def test_more_coins_for_all(self):
        for rule, wide, moves, deeds, rows in self.purses:
            for more in (1, 7, 10 ** 40):
                richer = [(pattern, coins + more) for pattern, coins in rows]
                self.assertIs(shows(rule, wide, moves, deeds, richer), True)

    def test_parts_in_higher_numbers(self):
        for rule, wide, moves, deeds, rows in self.purses:
            for times in range(2, 4):
                richer = [(pattern, coins * times) for pattern, coins in rows]
                self.assertIs(shows(rule, wide, moves * times, deeds * times, richer), True)
                if wide > 1:
                    self.assertIs(shows(rule, wide, moves * times, deeds * times, rows), False)

    def test_greater_parts_and_lesser_ones(self):
        for rule, wide, moves, deeds, rows in self.purses:
            for more in range(0, 21, 2 if wide > 4 else 1):
                for each in (1, 2, 3, 7, 20):
                    coins = rounds.least_coins(rule, wide, more, each)
                    lesser = more * deeds < moves * each
                    self.assertEqual(coins is None, lesser, (rule, wide, more, each))
                    if lesser:
                        told = [(pattern, each * many + 20) for pattern, many in rows]
                        self.assertIs(shows(rule, wide, more, each, told), False)
                        self.assertIs(shows(rule, wide, more, each, rows), False)
                    else:
                        self.assertIs(shows(rule, wide, more, each, list(coins.items())), True)

    def test_without_one_of_its_rows(self):
        for rule, wide, moves, deeds, rows in self.purses:
            for at in range(len(rows)):
                self.assertIs(shows(rule, wide, moves, deeds, rows[:at] + rows[at + 1:]), False, (rule, rows[at]))

    def test_no_rows_and_single_ones(self):
        for rule, wide, moves, deeds, rows in self.purses:
            self.assertIs(shows(rule, wide, moves, deeds, []), False)
            for row in rows:
                self.assertIs(shows(rule, wide, moves, deeds, [row]), False)

    def test_a_pattern_told_twice(self):
        for rule, wide, moves, deeds, rows in self.purses:
            for pattern, coins in rows:
                for many in (coins, coins + 1, 0):
                    self.assertIs(shows(rule, wide, moves, deeds, rows + [(pattern, many)]), False)
                    self.assertIs(shows(rule, wide, moves, deeds, [(pattern, many)] + rows), False)

    def test_one_coin_below_what_is_asked(self):
        for rule, wide, moves, deeds, rows in self.purses:
            for at, (pattern, coins) in enumerate(rows):
                poorer = rows[:at] + [(pattern, coins - 1)] + rows[at + 1:]
                self.assertIs(shows(rule, wide, moves, deeds, poorer), False, (rule, pattern, coins))

    def test_one_coin_above_what_those_ahead_leave(self):
        for rule, wide, moves, deeds, rows in self.purses:
            for at, (pattern, coins) in enumerate(rows):
                richer = rows[:at] + [(pattern, coins + 1)] + rows[at + 1:]
                right = rounds.is_purse(rule, wide, moves, deeds, richer)
                self.assertIs(shows(rule, wide, moves, deeds, richer), right, (rule, pattern, coins))
                far = rows[:at] + [(pattern, coins + 1000)] + rows[at + 1:]
                self.assertIs(shows(rule, wide, moves, deeds, far), False)

    def test_coins_below_none(self):
        for rule, wide, moves, deeds, rows in self.purses:
            low = min(coins for _, coins in rows) + 1
            poorer = [(pattern, coins - low) for pattern, coins in rows]
            self.assertIs(shows(rule, wide, moves, deeds, poorer), False)

    def test_patterns_of_another_length_or_other_signs(self):
        for rule, wide, moves, deeds, rows in self.purses:
            wrong = ["", "0" * (wide + 1), "1" * (wide - 1), "1" * (wide + 1), "0" * 7, "0" * wide + "x"]
            wrong += ["x" + "0" * (wide - 1), "1" * (wide - 1) + "2", " " * wide, "0" * (wide - 1) + "\n"]
            wrong += ["\u0660" * wide, "1" * (wide - 1) + "\uff11"]
            for text in wrong:
                for coins in (0, 1, 50):
                    for at in (0, 1, len(rows)):
                        told = rows[:at] + [(text, coins)] + rows[at:]
                        self.assertIs(shows(rule, wide, moves, deeds, told), False, (rule, wide, text))
            for at, (_, coins) in enumerate(rows):
                told = rows[:at] + [(wrong[6], coins)] + rows[at + 1:]
                self.assertIs(shows(rule, wide, moves, deeds, told), False)

    def test_a_purse_of_another_count_of_places(self):
        for rule, wide, moves, deeds, rows in self.purses:
            for other in model.WIDTHS:
                if other != wide:
                    self.assertIs(shows(rule, other, 20, 1, rows), False)

    def test_all_small_lists(self):
        part_numbers = list(itertools.product((0, 1, 2), (1, 2, 3)))
        for rule in model.RULES:
            for wide, most in ((1, 4), (2, 3)):
                patterns = model.patterns(wide)
                for coins in itertools.product([None, *range(-1, most)], repeat=len(patterns)):
                    told = [row for row in zip(patterns, coins) if row[1] is not None]
                    for moves, deeds in part_numbers:
                        right = rounds.is_purse(rule, wide, moves, deeds, told)
                        self.assertIs(shows(rule, wide, moves, deeds, told), right, (rule, moves, deeds, told))

    def test_some_lists(self):
        for rule in model.RULES:
            for wide in (2, 3, 4):
                for seed in range(80):
                    source = model.numbers(seed)
                    part = rounds.part_by_walks(rule, wide)
                    moves, deeds = part.numerator + next(source) % 2, part.denominator
                    rows = rounds.least_coins(rule, wide, moves, deeds).items()
                    told = [(pattern, coins + next(source) % 2) for pattern, coins in rows]
                    right = rounds.is_purse(rule, wide, moves, deeds, told)
                    self.assertIs(shows(rule, wide, moves, deeds, told), right, (rule, moves, deeds, told))

    def test_no_moves_are_shown_of_one_place_alone(self):
        for rule in model.RULES:
            self.assertIs(shows(rule, 1, 0, 1, [("0", 0), ("1", 0)]), True)
            self.assertIs(shows(rule, 1, 0, 20, [("1", 3), ("0", 3)]), True)
            self.assertIs(shows(rule, 1, 0, 1, [("0", 1), ("1", 0)]), False)
            self.assertIs(shows(rule, 2, 0, 1, [(pattern, 9) for pattern in model.patterns(2)]), False)

    def test_the_list_handed_in_stays_as_it_was(self):
        for rule, wide, moves, deeds, rows in self.purses:
            for told in (rows, rows[:-1], rows + [("x", 0)], rows + rows[:1], []):
                kept = list(told)
                first = shows(rule, wide, moves, deeds, told)
                self.assertEqual(told, kept)
                self.assertIs(shows(rule, wide, moves, deeds, told), first)

    def test_the_list_handed_in_may_be_changed_behind(self):
        for rule, wide, moves, deeds, rows in self.purses:
            told = list(rows)
            self.assertIs(shows(rule, wide, moves, deeds, told), True)
            told.pop()
            self.assertIs(shows(rule, wide, moves, deeds, told), False)
            told.append(rows[-1])
            self.assertIs(shows(rule, wide, moves, deeds, told), True)


class WhatFollows(unittest.TestCase):
    def held(self, rule, wide, moved):
        """The moves of the first deeds, each time, are paid for by the deeds and the empty pattern's coins."""
        moves, deeds, rows = purse(rule, wide)
        total = 0
        for number, each in enumerate(moved, start=1):
            total += each
            self.assertLessEqual(total * deeds, moves * number + dict(rows)["0" * wide], (rule, wide, number))

    def test_the_round_of_worst_again_and_again(self):
        for rule, wide in EACH:
            _, _, first, around = worst(rule, wide)
            way = rounds.way_to(rule, wide, first)
            moved, pattern = played(rule, wide, way)
            for _ in range(40):
                for deed in around:
                    told, pattern = done(rule, pattern, deed)
                    moved.append(told)
                self.assertEqual(pattern, first)
            self.held(rule, wide, moved)

    def test_some_deeds(self):
        for rule, wide in EACH:
            for seed in range(30):
                self.held(rule, wide, played(rule, wide, model.some_deeds(wide, 100, seed))[0])

    def test_always_the_deed_that_moves_most(self):
        for rule, wide in EACH:
            pattern, moved = "0" * wide, []
            for _ in range(100):
                _, told, pattern = max(rounds.graph(rule, wide)[pattern], key=lambda step: (step[1], step[0]))
                moved.append(told)
            self.held(rule, wide, moved)


class WhatIsRefused(unittest.TestCase):
    def test_rules_and_widths_that_are_none(self):
        for rule in NO_RULES:
            for wide in model.WIDTHS + NO_WIDTHS:
                self.assertIs(type(refusal(purse, rule, wide)), BadRule)
                self.assertIs(type(refusal(shows, rule, wide, 1, 1, [])), BadRule)
        for wide in NO_WIDTHS:
            for rule in model.RULES:
                self.assertIs(type(refusal(purse, rule, wide)), BadWidth)
                self.assertIs(type(refusal(shows, rule, wide, 1, 1, [])), BadWidth)

    def test_numbers_that_are_too_low(self):
        for rule, wide in EACH:
            for told in ([], [("0" * wide, 0)], purse(rule, wide)[2]):
                for moves in NO_MOVES:
                    self.assertIs(type(refusal(shows, rule, wide, moves, 1, told)), BadNumber)
                for deeds in NO_DEEDS:
                    self.assertIs(type(refusal(shows, rule, wide, 0, deeds, told)), BadNumber)

    def test_of_several_the_first_is_refused(self):
        for moves, deeds in ((-1, 0), (-1, 1), (0, 0)):
            self.assertIs(type(refusal(shows, "nigh", 0, moves, deeds, [("x", -1)])), BadRule)
            self.assertIs(type(refusal(shows, "nigh", 2, moves, deeds, [])), BadRule)
            self.assertIs(type(refusal(shows, "near", 7, moves, deeds, [("x", -1)])), BadWidth)
            self.assertIs(type(refusal(shows, "even", 6, moves, deeds, [("x", -1)])), BadNumber)
        self.assertIs(type(refusal(shows, "nigh", 0, 1, 1, [])), BadRule)

    def test_the_lowest_and_high_numbers_are_let_go(self):
        for rule, wide in EACH:
            self.assertIs(shows(rule, wide, 0, 1, []), False)
            for moves, deeds in ((20, 1), (20, 20), (0, 20), (25, 1), (30, 40), (10 ** 30, 10 ** 29)):
                coins = rounds.least_coins(rule, wide, moves, deeds)
                rows = [] if coins is None else list(coins.items())
                self.assertIs(shows(rule, wide, moves, deeds, rows), coins is not None)

    def test_a_refusal_changes_nothing(self):
        told = purse("near", 4)[2]
        kept = list(told)
        for args in (("nigh", 4, 3, 2), ("near", 0, 3, 2), ("near", 4, -1, 2), ("near", 4, 3, 0)):
            refusal(shows, *args, told)
            self.assertEqual(told, kept)
        self.assertIs(shows("near", 4, 3, 2, told), True)
        self.assertEqual(purse("near", 4), (3, 2, told))


class Interface(unittest.TestCase):
    def test_names_and_arguments(self):
        self.assertEqual(list(inspect.signature(purses.purse).parameters), ["rule", "wide"])
        self.assertEqual(list(inspect.signature(purses.shows).parameters), ["rule", "wide", "moves", "deeds", "told"])
        moves, deeds, rows = purse(rule="left", wide=3)
        self.assertIs(shows(rule="left", wide=3, moves=moves, deeds=deeds, told=rows), True)

    def test_defined_in_the_file_that_lists_them(self):
        for each in (purse, shows):
            self.assertEqual(each.__module__, "looseshelf.purses")


if __name__ == "__main__":
    unittest.main()
