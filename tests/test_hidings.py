"""fleethide.hidings: promise 7, and 2 and 3 where they speak of it."""

import unittest

import helper
from fleethide.errors import NoHiding, NoNumber, TooMany
from fleethide.hidings import hiding_at, hidings, how_many, number_of


class SmallGamesTest(unittest.TestCase):
    def test_counted_and_listed(self):
        for game in helper.SMALL_GAMES:
            listed = helper.told_hidings(*game)
            self.assertEqual(how_many(*game), len(listed), game)
            self.assertLessEqual(len(listed), 1000)
            self.assertEqual(hidings(*game), listed, game)

    def test_numbered_there_and_back(self):
        for game in helper.SMALL_GAMES:
            listed = helper.told_hidings(*game)
            for number in range(0, len(listed), 1 + len(listed) // 20):
                self.assertEqual(hiding_at(*game, number), listed[number])
                self.assertEqual(number_of(*game, listed[number]), number)

    def test_no_such_number(self):
        for game in helper.SMALL_GAMES + helper.NO_HIDINGS:
            many = how_many(*game)
            for number in [many, many + 1, -many - 1] + helper.ODD_NUMBERS:
                helper.refused(self, NoNumber, None, hiding_at, *game, number)

    def test_no_hiding_of_anything(self):
        for game in helper.SMALL_GAMES:
            listed = helper.told_hidings(*game)
            written = {repr(hiding): number for number, hiding in enumerate(listed)}
            for hiding in listed[::max(1, len(listed))]:
                for thing in helper.mutants(hiding, helper.ODD_THINGS[::3] + [True, 1]):
                    if repr(thing) in written:
                        self.assertEqual(number_of(*game, thing), written[repr(thing)])
                    else:
                        helper.refused(self, NoHiding, None, number_of, *game, thing)

    def test_written_out(self):
        self.assertEqual(hidings((1, 3), (1, 1), "sides"), [((0, 0, "along", 1), (0, 2, "along", 1))])
        self.assertEqual(hidings((2, 2), (2, 2), "free"), [
            ((0, 0, "along", 2), (1, 0, "along", 2)),
            ((0, 0, "down", 2), (0, 1, "down", 2)),
        ])


class EdgesTest(unittest.TestCase):
    def test_games_without_hidings(self):
        for game in helper.NO_HIDINGS:
            self.assertEqual(how_many(*game), 0)
            self.assertEqual(hidings(*game), [])
            helper.refused(self, NoNumber, None, hiding_at, *game, 0)
            for thing in helper.ODD_THINGS:
                helper.refused(self, NoHiding, None, number_of, *game, thing)

    def test_just_1000_are_told(self):
        self.assertEqual(how_many(*helper.JUST_1000), 1000)
        told = hidings(*helper.JUST_1000)
        self.assertEqual(told, helper.told_hidings(*helper.JUST_1000))

    def test_more_than_1000_are_too_many(self):
        self.assertEqual(how_many(*helper.JUST_1001), 1001)
        helper.refused(self, TooMany, None, hidings, *helper.JUST_1001)
        helper.refused(self, TooMany, None, hidings, *helper.JUST_20000)
        self.assertEqual(hiding_at(*helper.JUST_1001, 1000), tuple((1, column, "along", 1) for column in range(3, 7)))

    def test_near_20000(self):
        game = helper.JUST_20000
        self.assertEqual(how_many(*game), 20000)
        last = None
        for number in [0, 1, 999, 1000, 1001, 7777, 19998, 19999]:
            hiding = hiding_at(*game, number)
            self.assertEqual(number_of(*game, hiding), number)
            self.assertTrue(helper.is_told("sides", hiding))
            self.assertTrue(last is None or last < hiding)
            last = hiding
        for number in [20000, -1, -20000, helper.LONG]:
            helper.refused(self, NoNumber, None, hiding_at, *game, number)

    def test_by_name_and_unchanged(self):
        game = [(3, 3), (2, 1), "sides"]
        hiding = helper.told_hidings(*game)[5]
        helper.check_call(self, how_many, "sheet fleet rule", game)
        helper.check_call(self, hidings, "sheet fleet rule", game)
        helper.check_call(self, hiding_at, "sheet fleet rule number", game + [5])
        helper.check_call(self, number_of, "sheet fleet rule thing", game + [hiding])


if __name__ == "__main__":
    unittest.main()
