"""Point 6: shelves of keys."""

import inspect
import itertools
import unittest

from looseshelf.errors import BadDeed, BadKey, BadRule, BadWidth
from looseshelf.shelves import Shelf
from tests import model
from tests.test_done import NO_RULES, refusal
from tests.test_played import NO_WIDTHS

KEYS = (0, 1, -1, 2, -7, 10 ** 40, -10 ** 40, 3, 5, 4)


def filled(rule, wide, keys):
    shelf = Shelf(rule, wide)
    for key in keys:
        shelf.put_in(key)
    return shelf


class WhatShelvesDo(unittest.TestCase):
    def test_none_stands_there_at_first(self):
        for rule in model.RULES:
            for wide in model.WIDTHS:
                shelf = Shelf(rule, wide)
                self.assertEqual(shelf.standing(), [None] * wide)
                self.assertEqual(shelf.moved(), 0)

    def test_by_hand(self):
        shelf = Shelf("near", 4)
        self.assertEqual(shelf.put_in(50), 0)
        self.assertEqual(shelf.standing(), [None, 50, None, None])
        self.assertEqual(shelf.put_in(70), 0)
        self.assertEqual(shelf.standing(), [None, 50, 70, None])
        self.assertEqual(shelf.put_in(60), 1)
        self.assertEqual(shelf.standing(), [50, 60, 70, None])
        self.assertEqual(shelf.put_in(-3), 3)
        self.assertEqual(shelf.standing(), [-3, 50, 60, 70])
        self.assertEqual(shelf.moved(), 4)
        self.assertIsNone(shelf.take_out(50))
        self.assertEqual(shelf.standing(), [-3, None, 60, 70])
        self.assertEqual(shelf.put_in(65), 1)
        self.assertEqual(shelf.standing(), [-3, 60, 65, 70])
        self.assertEqual(shelf.moved(), 5)

    def test_zero_is_a_key(self):
        shelf = filled("left", 3, [0])
        self.assertEqual(shelf.standing(), [None, 0, None])
        self.assertIs(type(refusal(shelf.put_in, 0)), BadKey)
        self.assertIsNone(shelf.take_out(0))
        self.assertEqual(shelf.standing(), [None] * 3)

    def test_every_order_of_keys(self):
        for rule in model.RULES:
            for wide in (1, 2, 3, 4, 5):
                for keys in itertools.permutations(range(wide)):
                    self.follow(rule, wide, keys)

    def test_many_puttings_in_and_takings_out(self):
        for rule in model.RULES:
            for wide in model.WIDTHS:
                for seed in range(8):
                    source = model.numbers(seed)
                    self.follow(rule, wide, [KEYS[next(source) % len(KEYS)] for _ in range(100)])

    def test_more_than_a_hundred_are_no_error(self):
        source = model.numbers(9)
        self.follow("even", 6, [KEYS[next(source) % len(KEYS)] for _ in range(150)])

    def follow(self, rule, wide, keys):
        """Puts each key in, or takes it out if it stands there, as the model does."""
        shelf, row, total = Shelf(rule, wide), [None] * wide, 0
        for key in keys:
            ahead = shelf.standing()
            if key in row:
                self.assertIsNone(shelf.take_out(key))
                row = [None if name == key else name for name in row]
            elif None in row:
                rank = len([name for name in model.names(row) if name < key])
                row = model.put(rule, row, rank, key)
                told = shelf.put_in(key)
                self.assertIs(type(told), int)
                self.assertEqual(told, model.moves(ahead, shelf.standing()))
                total += told
            else:
                self.assertEqual(refusal(shelf.put_in, key).number, 0)
            self.assertEqual(shelf.standing(), row)
            self.assertEqual(shelf.moved(), total)
            self.assertEqual(model.names(row), sorted(model.names(row)))

    def test_kinds_of_what_is_told(self):
        shelf = filled("near", 2, [4])
        self.assertIs(type(shelf.standing()), list)
        self.assertIs(type(shelf.moved()), int)
        self.assertIs(type(shelf.put_in(3)), int)

    def test_asking_changes_nothing(self):
        for rule in model.RULES:
            shelf = filled(rule, 6, [5, 3, 4, 1])
            first = (shelf.standing(), shelf.moved())
            for _ in range(3):
                self.assertEqual((shelf.standing(), shelf.moved()), first)

    def test_what_standing_tells_may_be_changed(self):
        for rule in model.RULES:
            for keys in ([], [5], [5, 3, 4], [5, 3, 4, 1]):
                shelf, twin = filled(rule, 4, keys), filled(rule, 4, keys)
                row = shelf.standing()
                row[0] = 99
                row.reverse()
                row.clear()
                self.assertEqual(shelf.standing(), twin.standing())
                if keys:
                    shelf.take_out(5)
                    twin.take_out(5)
                self.assertEqual(shelf.put_in(2), twin.put_in(2))
                self.assertEqual(shelf.standing(), twin.standing())
                self.assertEqual(shelf.moved(), twin.moved())

    def test_what_standing_told_stays_as_it_was(self):
        shelf = filled("near", 3, [1, 2])
        row = shelf.standing()
        shelf.put_in(0)
        shelf.take_out(2)
        self.assertEqual(row, [None, 1, 2])

    def test_two_shelves_do_not_touch_each_other(self):
        for rule in model.RULES:
            for other in model.RULES:
                one, two = Shelf(rule, 5), Shelf(other, 5)
                for at, key in enumerate([9, 1, 5, 3, 7]):
                    one.put_in(key)
                    if at < 4:
                        two.put_in(-key)
                one.take_out(9)
                two.take_out(-1)
                alone = filled(rule, 5, [9, 1, 5, 3, 7])
                alone.take_out(9)
                self.assertEqual((one.standing(), one.moved()), (alone.standing(), alone.moved()))
                alone = filled(other, 5, [-9, -1, -5, -3])
                alone.take_out(-1)
                self.assertEqual((two.standing(), two.moved()), (alone.standing(), alone.moved()))


class WhatIsRefused(unittest.TestCase):
    def refused(self, shelf, call, key, error):
        """The key is refused, and the shelf stands as before."""
        before = (shelf.standing(), shelf.moved())
        told = refusal(call, key)
        self.assertIs(type(told), error)
        self.assertEqual((shelf.standing(), shelf.moved()), before)
        return told

    def test_a_key_that_stands_there_already(self):
        for rule in model.RULES:
            shelf = filled(rule, 6, [8, 2, 4])
            for key in (2, 4, 8):
                self.refused(shelf, shelf.put_in, key, BadKey)

    def test_a_full_shelf(self):
        for rule in model.RULES:
            for wide in model.WIDTHS:
                keys = list(range(0, 2 * wide, 2))
                shelf = filled(rule, wide, keys)
                for key in keys:
                    self.refused(shelf, shelf.put_in, key, BadKey)
                for key in range(-1, 2 * wide, 2):
                    error = self.refused(shelf, shelf.put_in, key, BadDeed)
                    self.assertEqual(error.number, 0)
                shelf.take_out(0)
                self.assertEqual(shelf.put_in(-1), 0)

    def test_a_key_that_does_not_stand_there(self):
        for rule in model.RULES:
            shelf = Shelf(rule, 4)
            self.refused(shelf, shelf.take_out, 0, BadKey)
            for key in (3, 6, 5):
                shelf.put_in(key)
            for key in (0, 4, 2, 7, -3):
                self.refused(shelf, shelf.take_out, key, BadKey)
            shelf.take_out(6)
            self.refused(shelf, shelf.take_out, 6, BadKey)

    def test_after_refusals_all_goes_on_as_without_them(self):
        for rule in model.RULES:
            shelf, twin = Shelf(rule, 3), Shelf(rule, 3)
            for key in (5, 1, 3):
                self.assertEqual(shelf.put_in(key), twin.put_in(key))
                refusal(shelf.put_in, key)
                refusal(shelf.take_out, key + 1)
            refusal(shelf.put_in, 2)
            for each in (shelf, twin):
                each.take_out(5)
            self.assertEqual(shelf.put_in(2), twin.put_in(2))
            self.assertEqual(shelf.standing(), twin.standing())
            self.assertEqual(shelf.moved(), twin.moved())

    def test_rules_and_widths_that_are_none(self):
        for rule in NO_RULES:
            for wide in model.WIDTHS + NO_WIDTHS:
                self.assertIs(type(refusal(Shelf, rule, wide)), BadRule)
        for wide in NO_WIDTHS:
            for rule in model.RULES:
                self.assertIs(type(refusal(Shelf, rule, wide)), BadWidth)


class Interface(unittest.TestCase):
    def test_names_and_arguments(self):
        self.assertEqual(list(inspect.signature(Shelf).parameters), ["rule", "wide"])
        for name, rest in (("put_in", ["key"]), ("take_out", ["key"]), ("standing", []), ("moved", [])):
            self.assertIn(name, vars(Shelf))
            self.assertEqual(list(inspect.signature(vars(Shelf)[name]).parameters)[1:], rest)
        shelf = Shelf(rule="near", wide=2)
        self.assertEqual(shelf.put_in(key=3), 0)
        self.assertIsNone(shelf.take_out(key=3))

    def test_defined_in_the_file_that_lists_it(self):
        self.assertEqual(Shelf.__module__, "looseshelf.shelves")


if __name__ == "__main__":
    unittest.main()
