"""fleethide.counts: promise 16, and 2 and 3 where they speak of it."""

import unittest

import helper
from fleethide.counts import counts_of, settled, with_counts
from fleethide.errors import NoCounts, TooMany

WORDS = ("water", "ship")
FEW_THINGS = [-1, 0, 1, True, False, None, "", "ship", (), [], (0, 0), [((0, 0), "ship")], helper.LONG]


def told_counts(sheet, hiding):
    cells = helper.lying(hiding)
    rows = [len([1 for column in range(sheet[1]) if (row, column) in cells]) for row in range(sheet[0])]
    columns = [len([1 for row in range(sheet[0]) if (row, column) in cells]) for column in range(sheet[1])]
    return tuple(rows), tuple(columns)


def agree(have, wanted):
    return all(want is None or want == count for count, want in zip(have, wanted, strict=True))


def told_with(sheet, fleet, rule, rows, columns, marks):
    """All hidings that have them, by going through all tuples of ships."""
    found = []
    for hiding in helper.told_hidings(sheet, fleet, rule):
        have = told_counts(sheet, hiding)
        marked = all((cell in helper.lying(hiding)) == (word == "ship") for cell, word in marks)
        if agree(have[0], rows) and agree(have[1], columns) and marked:
            found.append(hiding)
    return found


def told_settled(found):
    if not found:
        return ("none",)
    return ("one", found[0]) if len(found) == 1 else ("more", found[0], found[1])


def any_of(sheet):
    return (None,) * sheet[0], (None,) * sheet[1]


def thinned(counts, turn):
    """Counts with None for some of them, other ones at each turn."""
    return tuple(None if (at * 7 + turn * 3) % 5 < turn else count for at, count in enumerate(counts))


def wants_for(sheet, fleet, rule):
    """What may be wanted of a game: counts and marks of its hidings, some of them left out, some changed."""
    yield (*any_of(sheet), [])
    found = helper.told_hidings(sheet, fleet, rule)
    for turn in range(6 if found else 0):
        hiding = found[(turn * 31 + 5) % len(found)]
        rows, columns = told_counts(sheet, hiding)
        cells = helper.shuffled(sheet, turn)
        marks = [(cell, WORDS[cell in helper.lying(hiding)]) for cell in cells]
        yield (rows, columns, [])
        yield (thinned(rows, turn), thinned(columns, turn + 1), [])
        yield (thinned(rows, turn + 1), thinned(columns, turn), marks[:turn])
        yield (*any_of(sheet), marks[:turn + 1])
        yield (*any_of(sheet), marks)
        yield (rows[:-1] + (rows[-1] + 1,), columns, [])
        yield (thinned(rows, turn), (columns[0] - 1,) + columns[1:], marks[:2])
        yield (rows, columns, [(cell, WORDS[cell not in helper.lying(hiding)]) for cell in cells[:1]] + marks[1:3])


class CountsOfTest(unittest.TestCase):
    def test_of_small_hidings(self):
        for game in helper.SMALL_GAMES:
            for hiding in helper.told_hidings(*game):
                self.assertEqual(counts_of(game[0], hiding), told_counts(game[0], hiding))

    def test_written_out(self):
        hiding = ((0, 0, "along", 3), (2, 1, "along", 1), (1, 3, "down", 2))
        self.assertEqual(counts_of((3, 5), hiding), ((3, 1, 2), (1, 2, 1, 2, 0)))
        self.assertEqual(counts_of((1, 8), ((0, 0, "along", 8),)), ((8,), (1,) * 8))
        self.assertEqual(counts_of((8, 1), ((0, 0, "down", 8),)), ((1,) * 8, (8,)))

    def test_by_name_and_unchanged(self):
        helper.check_call(self, counts_of, "sheet hiding", [(2, 3), ((0, 0, "down", 2), (0, 2, "along", 1))])


class WithCountsTest(unittest.TestCase):
    def test_of_small_games(self):
        many = []
        for game in helper.SMALL_GAMES:
            for rows, columns, marks in wants_for(*game):
                found = told_with(*game, rows, columns, marks)
                self.assertEqual(with_counts(*game, rows, columns, marks), found, (game, rows, columns, marks))
                told = settled(*game, rows, columns, marks)
                self.assertEqual(told, told_settled(found), (game, rows, columns, marks))
                self.assertIs(type(told), tuple)
                many.append(len(found))
        self.assertGreater(many.count(0), 100)
        self.assertGreater(many.count(1), 100)
        self.assertGreater(len([1 for count in many if count > 2]), 100)

    def test_written_out(self):
        game = ((2, 2), (2,), "free")
        ships = [((0, 0, "along", 2),), ((0, 0, "down", 2),), ((0, 1, "down", 2),), ((1, 0, "along", 2),)]
        self.assertEqual(with_counts(*game, (None, None), (None, None), []), ships)
        self.assertEqual(settled(*game, (None, None), (None, None), []), ("more", ships[0], ships[1]))
        self.assertEqual(settled(*game, (1, None), (None, None), []), ("more", ships[1], ships[2]))
        self.assertEqual(settled(*game, (1, 1), (None, 0), []), ("one", ships[1]))
        self.assertEqual(settled(*game, (2, None), (None, None), [((1, 1), "water")]), ("one", ships[0]))
        self.assertEqual(settled(*game, (None, None), (None, None), [((1, 0), "ship"), ((1, 1), "ship")]),
                         ("one", ships[3]))
        self.assertEqual(settled(*game, (2, None), (None, None), [((1, 1), "ship")]), ("none",))
        self.assertEqual(with_counts(*game, (2, 2), (None, None), []), [])

    def test_any_whole_numbers_are_counts(self):
        game = ((2, 2), (2,), "free")
        for number in helper.ODD_NUMBERS + [3, 9]:
            for rows, columns in [((number, None), (None, None)), ((None, None), (None, number))]:
                self.assertEqual(with_counts(*game, rows, columns, []), [])
                self.assertEqual(settled(*game, rows, columns, []), ("none",))

    def test_no_count_stands_for_another(self):
        game = ((1, 3), (1,), "free")
        self.assertEqual(with_counts(*game, (1,), (0, 1, 0), []), [((0, 1, "along", 1),)])
        self.assertEqual(with_counts(*game, (0,), (None, None, None), []), [])
        self.assertEqual(with_counts(*game, (None,), (0, 0, 0), []), [])

    def test_where_there_are_no_hidings(self):
        for game in helper.NO_HIDINGS:
            self.assertEqual(with_counts(*game, *any_of(game[0]), []), [])
            self.assertEqual(settled(*game, *any_of(game[0]), []), ("none",))

    def test_by_name_and_unchanged(self):
        values = [(3, 3), (2, 1), "sides", (2, None, None), (None,) * 3, [((0, 0), "ship")]]
        helper.check_call(self, with_counts, "sheet fleet rule rows columns marks", values)
        helper.check_call(self, settled, "sheet fleet rule rows columns marks", values)


class TooManyTest(unittest.TestCase):
    def test_just_1000(self):
        game = helper.JUST_1000
        self.assertEqual(with_counts(*game, *any_of(game[0]), []), helper.told_hidings(*game))

    def test_beyond_1000(self):
        for game in [helper.JUST_1001, helper.JUST_20000]:
            helper.refused(self, TooMany, None, with_counts, *game, *any_of(game[0]), [])
        found = helper.told_hidings(*helper.JUST_1001)
        self.assertEqual(settled(*helper.JUST_1001, *any_of((2, 7)), []), ("more", found[0], found[1]))
        word, first, second = settled(*helper.JUST_20000, *any_of((6, 8)), [])
        self.assertEqual((word, first < second), ("more", True))

    def test_few_of_20000(self):
        game = helper.JUST_20000
        wanted = ((1, 0, "along", 7), (3, 1, "along", 5), (5, 2, "along", 3), (5, 7, "along", 1))
        rows, columns = thinned(told_counts(game[0], wanted)[0], 1), (None,) * 8
        marks = [((0, 0), "water"), ((1, 1), "ship")]
        found = with_counts(*game, rows, columns, marks)
        self.assertIn(wanted, found)
        self.assertTrue(1 < len(found) < 1000)
        self.assertEqual(found, sorted(set(found)))
        for hiding in found:
            self.assertTrue(agree(told_counts(game[0], hiding)[0], rows))
            self.assertTrue((0, 0) not in helper.lying(hiding) and (1, 1) in helper.lying(hiding))
        self.assertEqual(settled(*game, rows, columns, marks), ("more", found[0], found[1]))


class NoCountsTest(unittest.TestCase):
    def refused(self, game, rows, columns, marks):
        for function in [with_counts, settled]:
            helper.refused(self, NoCounts, None, function, *game, rows, columns, marks)

    def test_of_any_tuples(self):
        game = ((2, 3), (2,), "free")
        for counts, many in [((1, None), 2), ((1, 0, None), 3)]:
            for thing in helper.mutants(counts):
                if not isinstance(thing, tuple):
                    continue
                good = len(thing) == many and all(part is None or type(part) is int for part in thing)
                rows, columns = (thing, (None,) * 3) if many == 2 else ((None,) * 2, thing)
                if good:
                    self.assertEqual(with_counts(*game, rows, columns, []), told_with(*game, rows, columns, []))
                else:
                    self.refused(game, rows, columns, [])

    def test_rows_and_columns_are_not_mixed_up(self):
        game = ((2, 3), (2,), "free")
        self.refused(game, (None,) * 3, (None,) * 2, [])
        self.refused(game, (None,) * 2, (None,) * 2, [])
        self.refused(game, (None,) * 3, (None,) * 3, [])
        self.refused(game, (), (), [])

    def test_of_any_list(self):
        game = ((1, 2), (1,), "free")
        written = [[]] + [[(cell, word)] for cell in helper.grid((1, 2)) for word in WORDS]
        written += [one + other for one in written[1:] for other in written[1:] if one[0][0] != other[0][0]]
        good = {repr(marks) for marks in written}
        for marks in written:
            for thing in helper.mutants(marks, FEW_THINGS if len(marks) > 1 else helper.ODD_THINGS):
                if not isinstance(thing, list):
                    continue
                if repr(thing) in good:
                    found = told_with(*game, (None,), (None, None), thing)
                    self.assertEqual(with_counts(*game, (None,), (None, None), thing), found)
                else:
                    self.refused(game, (None,), (None, None), thing)

    def test_marks_off_the_sheet_or_twice(self):
        for sheet in [(2, 3), (3, 2), (8, 8)]:
            game = (sheet, (2,), "free")
            for cell in helper.off_cells(sheet):
                self.refused(game, *any_of(sheet), [((0, 0), "water"), (cell, "water")])
            for word in WORDS:
                self.refused(game, *any_of(sheet), [((0, 1), "ship"), ((1, 1), "water"), ((0, 1), word)])
            for word in ["hit", "sunk", "Ship", "", "ships", None, 0, True]:
                self.refused(game, *any_of(sheet), [((0, 1), word)])

    def test_it_goes_ahead_of_all_else(self):
        for game in [helper.JUST_1001] + helper.NO_HIDINGS:
            rows, columns = any_of(game[0])
            self.refused(game, rows + (None,), columns, [])
            self.refused(game, rows, columns[1:], [])
            self.refused(game, rows, columns, [((0, 0), "hit")])
            self.refused(game, rows, (True,) + columns[1:], [])


if __name__ == "__main__":
    unittest.main()
