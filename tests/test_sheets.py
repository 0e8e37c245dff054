"""fleethide.sheets: promises 4, 5 and 6, and 2 where it speaks of them."""

import itertools
import unittest

import helper
from fleethide.sheets import cells_of, is_fleet, is_hiding, is_sheet, is_ship, keep, ships_of

SOME_SHEETS = [(1, 1), (1, 8), (8, 1), (2, 3), (3, 2), (4, 4), (5, 7), (8, 8)]


def same_as_listed(test, asked, listed, things):
    """Each thing is one just where it is written like a listed one, so a truth is no number and a list no tuple."""
    written = {repr(thing) for thing in listed}
    for thing in things:
        told = asked(thing)
        test.assertIs(told, repr(thing) in written, thing)


class SheetTest(unittest.TestCase):
    def test_all_sheets_and_just_beyond(self):
        around = itertools.product(range(-2, 11), repeat=2)
        same_as_listed(self, is_sheet, helper.all_sheets(), around)

    def test_of_anything(self):
        for sheet in [(1, 1), (8, 8), (3, 5)]:
            same_as_listed(self, is_sheet, helper.all_sheets(), helper.mutants(sheet))

    def test_by_name(self):
        helper.check_call(self, is_sheet, "thing", [(2, 3)])
        helper.check_call(self, is_sheet, "thing", [[2, [3]]])


class ShipTest(unittest.TestCase):
    def test_all_ships_and_just_beyond(self):
        for sheet in SOME_SHEETS:
            listed = [ship for length in range(1, 9) for ship in helper.all_ships(sheet, length)]
            around = itertools.product(range(-1, 9), range(-1, 9), ("along", "down"), range(-1, 10))
            same_as_listed(self, lambda thing: is_ship(sheet, thing), listed, around)

    def test_of_anything(self):
        for sheet in [(1, 1), (3, 4), (8, 8)]:
            listed = [ship for length in range(1, 9) for ship in helper.all_ships(sheet, length)]
            for ship in listed[::max(1, len(listed) // 15)]:
                same_as_listed(self, lambda thing: is_ship(sheet, thing), listed, helper.mutants(ship))

    def test_a_ship_of_one_cell_is_along(self):
        self.assertIs(is_ship((3, 3), (1, 2, "along", 1)), True)
        self.assertIs(is_ship((3, 3), (1, 2, "down", 1)), False)

    def test_no_ship_is_longer_than_8(self):
        self.assertIs(is_ship((8, 8), (0, 0, "along", 8)), True)
        self.assertIs(is_ship((8, 8), (0, 0, "along", 9)), False)
        self.assertIs(is_ship((8, 8), (0, 1, "along", 8)), False)
        self.assertIs(is_ship((8, 8), (1, 0, "down", 8)), False)

    def test_by_name(self):
        helper.check_call(self, is_ship, "sheet thing", [(2, 3), (1, 0, "along", 3)])
        helper.check_call(self, is_ship, "sheet thing", [(2, 3), [1, 0, "along", [3]]])


class ShipsOfTest(unittest.TestCase):
    def test_all_of_each_length_rising(self):
        for sheet in helper.all_sheets():
            for length in range(1, 9):
                ships = ships_of(sheet, length)
                self.assertEqual(ships, sorted(helper.all_ships(sheet, length)), (sheet, length))
                self.assertTrue(all(is_ship(sheet, ship) for ship in ships))

    def test_written_out(self):
        told = [(0, 0, "along", 2), (0, 0, "down", 2), (0, 1, "down", 2), (1, 0, "along", 2)]
        self.assertEqual(ships_of((2, 2), 2), told)
        self.assertEqual(ships_of((1, 2), 1), [(0, 0, "along", 1), (0, 1, "along", 1)])

    def test_a_length_beyond_the_sheet(self):
        for sheet in SOME_SHEETS:
            for length in [max(sheet) + 1, 9, 10, 60, helper.LONG]:
                self.assertEqual(ships_of(sheet, length), [])

    def test_by_name(self):
        helper.check_call(self, ships_of, "sheet length", [(2, 3), 2])


class CellsOfTest(unittest.TestCase):
    def test_rising(self):
        for sheet in SOME_SHEETS:
            for length in range(1, 9):
                for ship in helper.all_ships(sheet, length):
                    self.assertEqual(cells_of(ship), sorted(helper.body(ship)))

    def test_written_out(self):
        self.assertEqual(cells_of((1, 2, "along", 3)), [(1, 2), (1, 3), (1, 4)])
        self.assertEqual(cells_of((1, 2, "down", 3)), [(1, 2), (2, 2), (3, 2)])
        self.assertEqual(cells_of((7, 7, "along", 1)), [(7, 7)])

    def test_by_name(self):
        helper.check_call(self, cells_of, "ship", [(1, 2, "down", 3)])


class KeepTest(unittest.TestCase):
    def test_all_pairs(self):
        for sheet, lengths in [((4, 5), (1, 2, 3, 4, 5)), ((8, 8), (8, 2))]:
            ships = [ship for length in lengths for ship in helper.all_ships(sheet, length)]
            for rule in helper.RULES:
                for one, other in itertools.product(ships, repeat=2):
                    self.assertIs(keep(rule, one, other), helper.kept(rule, one, other), (rule, one, other))

    def test_written_out(self):
        one = (0, 0, "along", 2)
        rows = [
            ((0, 1, "down", 2), (False, False, False)),
            ((0, 0, "along", 2), (False, False, False)),
            ((0, 2, "along", 2), (True, False, False)),
            ((1, 1, "down", 3), (True, False, False)),
            ((1, 2, "down", 2), (True, True, False)),
            ((0, 3, "down", 2), (True, True, True)),
            ((2, 0, "along", 1), (True, True, True)),
        ]
        for other, told in rows:
            self.assertEqual(tuple(keep(rule, one, other) for rule in helper.RULES), told)
            self.assertEqual(tuple(keep(rule, other, one) for rule in helper.RULES), told)

    def test_by_name(self):
        helper.check_call(self, keep, "rule one other", ["sides", (0, 0, "along", 2), (2, 0, "along", 1)])


class FleetTest(unittest.TestCase):
    def test_all_fleets_and_just_beyond(self):
        around = [fleet for many in range(4) for fleet in itertools.product(range(-1, 11), repeat=many)]
        around += list(itertools.product(range(0, 10), repeat=4))
        around += [(1, 1, 1, 1, 1), (5, 4, 3, 2, 1), (8,) * 5, (1,) * 40]
        same_as_listed(self, is_fleet, helper.all_fleets(), around)

    def test_of_anything(self):
        for fleet in [(1,), (8,), (3, 2), (4, 4, 2), (4, 3, 2, 1), (8, 8, 1, 1)]:
            same_as_listed(self, is_fleet, helper.all_fleets(), helper.mutants(fleet))

    def test_by_name(self):
        helper.check_call(self, is_fleet, "thing", [(3, 2)])
        helper.check_call(self, is_fleet, "thing", [[3, [2]]])


class HidingTest(unittest.TestCase):
    def test_of_all_tuples_of_ships(self):
        for sheet, fleet, rule in helper.SMALL_GAMES:
            listed = helper.told_hidings(sheet, fleet, rule)
            tuples = itertools.product(*[helper.all_ships(sheet, length) for length in fleet])
            tuples = list(itertools.islice(tuples, 0, None, 7)) + listed
            same_as_listed(self, lambda thing: is_hiding(sheet, fleet, rule, thing), listed, tuples)

    def test_of_anything(self):
        for sheet, fleet, rule in helper.SMALL_GAMES:
            listed = helper.told_hidings(sheet, fleet, rule)
            for hiding in listed[::max(1, len(listed) // 2)]:
                things = helper.mutants(hiding)
                same_as_listed(self, lambda thing: is_hiding(sheet, fleet, rule, thing), listed, things)

    def test_of_anything_where_there_are_none(self):
        for sheet, fleet, rule in helper.NO_HIDINGS:
            hiding = tuple((0, 0, "along", length) for length in fleet)
            same_as_listed(self, lambda thing: is_hiding(sheet, fleet, rule, thing), [], helper.mutants(hiding))

    def test_two_of_one_length_rise(self):
        low, high = (0, 0, "along", 2), (2, 0, "along", 2)
        self.assertIs(is_hiding((3, 3), (2, 2), "sides", (low, high)), True)
        self.assertIs(is_hiding((3, 3), (2, 2), "sides", (high, low)), False)
        self.assertIs(is_hiding((3, 3), (2, 2), "free", (low, low)), False)
        self.assertIs(is_hiding((3, 3), (2, 1), "sides", (high, (0, 0, "along", 1))), True)
        ships = ((2, 0, "along", 3), (0, 0, "along", 1), (0, 2, "along", 1))
        self.assertIs(is_hiding((3, 3), (3, 1, 1), "corners", ships), True)
        self.assertIs(is_hiding((3, 3), (3, 1, 1), "corners", (ships[0], ships[2], ships[1])), False)

    def test_lengths_in_the_order_of_the_fleet(self):
        long, short = (0, 0, "along", 3), (2, 0, "along", 2)
        self.assertIs(is_hiding((3, 3), (3, 2), "corners", (long, short)), True)
        self.assertIs(is_hiding((3, 3), (3, 2), "corners", (short, long)), False)
        self.assertIs(is_hiding((3, 3), (3, 3), "corners", (long, short)), False)
        self.assertIs(is_hiding((3, 3), (3,), "corners", (long, short)), False)

    def test_each_two_keep_the_rule(self):
        ships = ((0, 0, "along", 2), (0, 2, "down", 2), (2, 0, "along", 2))
        self.assertEqual([is_hiding((3, 3), (2, 2, 2), rule, ships) for rule in helper.RULES], [True, False, False])
        ships = ((0, 0, "along", 3), (2, 0, "along", 1), (1, 2, "along", 1))
        self.assertIs(is_hiding((3, 3), (3, 1, 1), "sides", ships), False)

    def test_by_name(self):
        hiding = ((0, 0, "along", 2), (2, 0, "along", 2))
        helper.check_call(self, is_hiding, "sheet fleet rule thing", [(3, 3), (2, 2), "sides", hiding])
        helper.check_call(self, is_hiding, "sheet fleet rule thing", [(3, 3), (2, 2), "sides", [[hiding[0]]]])


if __name__ == "__main__":
    unittest.main()
