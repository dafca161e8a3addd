"""Points 4 and 7: how much is moved in the long run at the worst."""

import inspect
import math
import unittest
from fractions import Fraction

from looseshelf.errors import BadRule, BadWidth
from looseshelf.rules import done, played
from looseshelf.worst import long_run, worst
from tests import model, rounds
from tests.test_done import NO_RULES, refusal
from tests.test_played import NO_WIDTHS

EACH = [(rule, wide) for rule in model.RULES for wide in model.WIDTHS]


class WhatIsTold(unittest.TestCase):
    def test_the_deeds_go_round_with_just_this_part(self):
        for rule, wide in EACH:
            with self.subTest(rule=rule, wide=wide):
                moves, deeds, first, around = worst(rule, wide)
                self.assertGreaterEqual(len(around), 1)
                total, pattern = 0, first
                for deed in around:
                    told, behind = done(rule, pattern, deed)
                    self.assertEqual((told, behind), rounds.step(rule, pattern, deed))
                    total, pattern = total + told, behind
                self.assertEqual(pattern, first)
                self.assertEqual(total * deeds, moves * len(around))

    def test_a_shelf_comes_to_the_pattern(self):
        for rule, wide in EACH:
            first = worst(rule, wide)[2]
            self.assertIn(first, model.patterns(wide))
            way = rounds.way_to(rule, wide, first)
            self.assertIsNotNone(way)
            self.assertEqual(played(rule, wide, way)[1], first)

    def test_the_numbers_are_the_lowest(self):
        for rule, wide in EACH:
            moves, deeds, _, _ = worst(rule, wide)
            self.assertGreaterEqual(moves, 0)
            self.assertGreaterEqual(deeds, 1)
            self.assertEqual(math.gcd(moves, deeds), 1)

    def test_none_is_ever_moved_on_one_place(self):
        for rule in model.RULES:
            moves, deeds, first, around = worst(rule, 1)
            self.assertEqual((moves, deeds), (0, 1))
            self.assertIn(first, ("0", "1"))
            self.assertEqual(len(around) & 1, 0)

    def test_by_hand(self):
        # A putting in moves all others at the most, and each round takes out as often as it puts in;
        # on a full shelf one is taken out at one end and put in at the other, again and again.
        for rule, wide in EACH:
            moves, deeds, _, _ = worst(rule, wide)
            self.assertEqual(Fraction(moves, deeds), Fraction(wide - 1, 2), (rule, wide))
            for pattern, steps in rounds.graph(rule, wide).items():
                self.assertLessEqual(max(moved for _, moved, _ in steps), wide - 1)

    def test_no_walk_moves_more(self):
        for rule, wide in EACH:
            moves, deeds, _, _ = worst(rule, wide)
            self.assertEqual(Fraction(moves, deeds), rounds.part_by_walks(rule, wide), (rule, wide))

    def test_no_round_at_all_moves_more(self):
        for rule, wide in EACH:
            if wide <= 3:
                moves, deeds, _, _ = worst(rule, wide)
                self.assertEqual(Fraction(moves, deeds), rounds.part_by_all_rounds(rule, wide), (rule, wide))

    def test_kinds_of_what_is_told(self):
        for rule, wide in EACH:
            told = worst(rule, wide)
            self.assertIs(type(told), tuple)
            self.assertEqual([type(each) for each in told], [int, int, str, list])
            for deed in told[3]:
                self.assertIs(type(deed), tuple)
                self.assertEqual([type(each) for each in deed], [str, int])

    def test_the_same_question_has_the_same_answer(self):
        first = [worst(rule, wide) for rule, wide in EACH]
        self.assertEqual([worst(rule, wide) for rule, wide in reversed(EACH)], first[::-1])

    def test_what_is_told_may_be_changed(self):
        for rule, wide in EACH:
            told = worst(rule, wide)
            kept = (*told[:3], list(told[3]))
            told[3].append(("take", 99))
            told[3].reverse()
            told[3].clear()
            self.assertEqual(worst(rule, wide), kept)


class WhatIsRefused(unittest.TestCase):
    def test_rules_and_widths_that_are_none(self):
        for rule in NO_RULES:
            for wide in model.WIDTHS + NO_WIDTHS:
                self.assertIs(type(refusal(worst, rule, wide)), BadRule, (rule, wide))
        for wide in NO_WIDTHS:
            for rule in model.RULES:
                self.assertIs(type(refusal(worst, rule, wide)), BadWidth, (rule, wide))


class TheSearchForRounds(unittest.TestCase):
    """The greatest part is half of the others on every shelf: what the search does with other rounds is seen here."""

    def part(self, edges):
        names = sorted({edge[0] for edge in edges} | {edge[2] for edge in edges})
        steps = {name: [(ahead, (ahead, behind), moved, behind) for ahead, moved, behind in edges if ahead == name]
                 for name in names}
        moves, deeds, around, coins = long_run(steps)
        for one, other in zip(around, around[1:] + around[:1]):
            self.assertEqual(one[3], other[0])
        self.assertEqual(sum(each[2] for each in around) * deeds, moves * len(around))
        for ahead, moved, behind in edges:
            self.assertLessEqual(coins[behind], coins[ahead] + moves - deeds * moved)
        self.assertEqual(math.gcd(moves, deeds), 1)
        return moves, deeds

    def test_a_long_round_of_a_greater_part(self):
        short = [("a", 3, "b"), ("b", 4, "a")]
        long = [("b", 5, "c"), ("c", 2, "d"), ("d", 4, "e"), ("e", 6, "b")]
        self.assertEqual(self.part(short), (7, 2))
        self.assertEqual(self.part(short + long), (17, 4))
        self.assertEqual(self.part(long + short), (17, 4))

    def test_a_short_round_of_a_greater_part(self):
        short = [("a", 4, "b"), ("b", 5, "a")]
        long = [("b", 5, "c"), ("c", 2, "d"), ("d", 4, "e"), ("e", 6, "b")]
        self.assertEqual(self.part(short + long), (9, 2))

    def test_a_way_of_many_moves_that_does_not_come_back(self):
        edges = [("a", 50, "b"), ("b", 50, "c"), ("c", 0, "d"), ("d", 1, "e"), ("e", 1, "c")]
        self.assertEqual(self.part(edges), (2, 3))

    def test_rounds_that_move_none(self):
        self.assertEqual(self.part([("a", 0, "b"), ("b", 0, "c"), ("c", 0, "a")]), (0, 1))

    def test_against_all_rounds_of_some_graphs(self):
        for seed in range(60):
            source = model.numbers(seed)
            names = "abcdef"[:2 + next(source) % 5]
            edges = [(name, next(source) % 6, names[(at + 1) % len(names)]) for at, name in enumerate(names)]
            for _ in range(next(source) % 9):
                edges.append((names[next(source) % len(names)], next(source) % 6, names[next(source) % len(names)]))
            self.assertEqual(Fraction(*self.part(edges)), self.greatest(edges, names), edges)

    def greatest(self, edges, names):
        best = Fraction(0)

        def go_on(first, name, met, moves):
            nonlocal best
            for ahead, moved, behind in edges:
                if ahead == name and behind == first:
                    best = max(best, Fraction(moves + moved, len(met)))
                elif ahead == name and behind > first and behind not in met:
                    go_on(first, behind, met | {behind}, moves + moved)

        for name in names:
            go_on(name, name, {name}, 0)
        return best


class Interface(unittest.TestCase):
    def test_names_and_arguments(self):
        self.assertEqual(list(inspect.signature(worst).parameters), ["rule", "wide"])
        self.assertEqual(worst(rule="left", wide=3), worst("left", 3))

    def test_defined_in_the_file_that_lists_it(self):
        self.assertEqual(worst.__module__, "looseshelf.worst")


if __name__ == "__main__":
    unittest.main()
