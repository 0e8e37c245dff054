"""fleethide.records: promises 8 to 11, and 2 and 3 where they speak of them."""

import itertools
import unittest

import helper
from fleethide.errors import NoCell, NoHiding, NoShot, TooMany
from fleethide.records import answers_of, best_shot, chances, fits, fitting, how_many_fit, is_record, parts_of, sure

NEAR_20000 = ((4, 7), (3, 2, 2), "free")
LINE = ((1, 4), (2,), "free")


class IsRecordTest(unittest.TestCase):
    def test_of_anything(self):
        for sheet in [(1, 1), (1, 2), (2, 1)]:
            cells = helper.grid(sheet)
            records = [list(zip(order, answers)) for many in range(len(cells) + 1)
                       for order in itertools.permutations(cells, many)
                       for answers in itertools.product(helper.ANSWERS, repeat=many)]
            written = {repr(record) for record in records}
            for record in records:
                for thing in helper.mutants(record):
                    self.assertIs(is_record(sheet, thing), repr(thing) in written, thing)

    def test_of_all_cells(self):
        for sheet in [(3, 5), (8, 8)]:
            whole = [(cell, "hit") for cell in helper.shuffled(sheet, 1)]
            self.assertIs(is_record(sheet, whole), True)
            self.assertIs(is_record(sheet, whole[:-1] + [whole[0]]), False)
            self.assertIs(is_record(sheet, whole + [(whole[3][0], "water")]), False)
            self.assertIs(is_record(sheet, tuple(whole)), False)

    def test_no_cell_off_the_sheet(self):
        for sheet in [(3, 5), (5, 3), (8, 8)]:
            for cell in helper.off_cells(sheet) + [(0,), (0, 0, 0), [0, 0], (0, True), (None, 0)]:
                self.assertIs(is_record(sheet, [((0, 0), "water"), (cell, "water")]), False, cell)
            self.assertIs(is_record(sheet, [((sheet[0] - 1, sheet[1] - 1), "water")]), True)

    def test_no_other_answer(self):
        for answer in ["Water", "ship", "", "water ", None, 0, True, ("water",), ["hit"]]:
            self.assertIs(is_record((2, 2), [((0, 0), answer)]), False)


class AnswersTest(unittest.TestCase):
    def test_of_small_hidings(self):
        for sheet, fleet, rule in helper.SMALL_GAMES:
            found = helper.told_hidings(sheet, fleet, rule)
            for turn, hiding in enumerate(found[::1 + len(found) // 10]):
                cells = helper.shuffled(sheet, turn)
                for many in [0, 1, len(cells) // 2, len(cells)]:
                    self.assertEqual(answers_of(hiding, cells[:many]), helper.told_answers(hiding, cells[:many]))

    def test_written_out(self):
        hiding = ((0, 0, "along", 3), (2, 2, "along", 1))
        cells = [(0, 1), (2, 2), (1, 1), (0, 2), (0, 0)]
        self.assertEqual(answers_of(hiding, cells), ["hit", "sunk", "water", "hit", "sunk"])
        self.assertEqual(answers_of(hiding, []), [])

    def test_fits_just_where_it_answers_so(self):
        for game in helper.SMALL_GAMES:
            found = helper.told_hidings(*game)
            for record in helper.records_for(*game):
                answers = [answer for cell, answer in record]
                for hiding in found[::1 + len(found) // 10]:
                    same = helper.told_answers(hiding, [cell for cell, answer in record]) == answers
                    self.assertIs(fits(hiding, record), same)

    def test_the_order_of_shots_counts(self):
        hiding = ((0, 0, "along", 2),)
        self.assertIs(fits(hiding, [((0, 0), "hit"), ((0, 1), "sunk")]), True)
        self.assertIs(fits(hiding, [((0, 1), "sunk"), ((0, 0), "hit")]), False)
        self.assertIs(fits(hiding, []), True)


class SmallGamesTest(unittest.TestCase):
    def each(self):
        for game in helper.SMALL_GAMES:
            for record in helper.records_for(*game):
                yield game, record, helper.told_fitting(*game, record)

    def test_the_records_are_of_all_sorts(self):
        many = [len(found) for game, record, found in self.each()]
        self.assertGreater(many.count(0), 50)
        self.assertGreater(many.count(1), 50)
        self.assertGreater(len(many) - many.count(0) - many.count(1), 50)

    def test_how_many_fit_and_which(self):
        for game, record, found in self.each():
            self.assertEqual(how_many_fit(*game, record), len(found), (game, record))
            self.assertEqual(fitting(*game, record), found, (game, record))

    def test_chances(self):
        for game, record, found in self.each():
            if found:
                self.assertEqual(chances(*game, record), helper.told_chances(game[0], found), (game, record))
            else:
                helper.refused(self, NoHiding, None, chances, *game, record)

    def test_sure(self):
        for game, record, found in self.each():
            if found:
                self.assertEqual(sure(*game, record), helper.told_sure(game[0], found, record), (game, record))
            else:
                helper.refused(self, NoHiding, None, sure, *game, record)

    def test_parts(self):
        for game, record, found in self.each():
            shot = [cell for cell, answer in record]
            for cell in helper.shuffled(game[0], 2)[:4]:
                values = (*game, record, cell)
                if not found:
                    helper.refused(self, NoHiding, None, parts_of, *values)
                elif cell in shot:
                    helper.refused(self, NoShot, cell, parts_of, *values)
                else:
                    self.assertEqual(parts_of(*values), helper.told_parts(found, record, cell), values)

    def test_best_shot(self):
        for game, record, found in self.each():
            if not found:
                helper.refused(self, NoHiding, None, best_shot, *game, record)
            elif len(record) == game[0][0] * game[0][1]:
                helper.refused(self, NoShot, None, best_shot, *game, record)
            else:
                self.assertEqual(best_shot(*game, record), helper.told_best(game[0], found, record), (game, record))


class WrittenOutTest(unittest.TestCase):
    def test_empty_record(self):
        self.assertEqual(how_many_fit(*LINE, []), 3)
        self.assertEqual(chances(*LINE, []), [[1, 2, 2, 1]])
        self.assertEqual(sure(*LINE, []), ([], []))
        self.assertEqual(parts_of(*LINE, [], (0, 1)), (1, 2, 0))
        self.assertEqual(best_shot(*LINE, []), ((0, 0), (2, 1, 0)))

    def test_behind_a_hit(self):
        record = [((0, 1), "hit")]
        self.assertEqual(fitting(*LINE, record), [((0, 0, "along", 2),), ((0, 1, "along", 2),)])
        self.assertEqual(chances(*LINE, record), [[1, 2, 1, 0]])
        self.assertEqual(sure(*LINE, record), ([(0, 3)], []))
        self.assertEqual(parts_of(*LINE, record, (0, 2)), (1, 0, 1))
        self.assertEqual(best_shot(*LINE, record), ((0, 0), (1, 0, 1)))

    def test_sure_ships(self):
        self.assertEqual(sure(*LINE, [((0, 1), "water")]), ([(0, 0)], [(0, 2), (0, 3)]))

    def test_the_hit_ship_is_not_the_sunk_one(self):
        game = ((1, 3), (2, 1), "free")
        record = [((0, 0), "hit"), ((0, 2), "sunk")]
        self.assertEqual(fitting(*game, record), [((0, 0, "along", 2), (0, 2, "along", 1))])
        self.assertEqual(sure(*game, record), ([], [(0, 1)]))


class EdgesTest(unittest.TestCase):
    def test_games_without_hidings(self):
        for game in helper.NO_HIDINGS:
            for record in [[], [((0, 0), "water")], [((0, 0), "hit")]]:
                self.assertEqual(how_many_fit(*game, record), 0)
                self.assertEqual(fitting(*game, record), [])
                for function in [chances, sure, best_shot]:
                    helper.refused(self, NoHiding, None, function, *game, record)
                for cell in [(0, 0)] + helper.OFF_CELLS:
                    helper.refused(self, NoHiding, None, parts_of, *game, record, cell)

    def test_just_1000_fit(self):
        game, record = ((4, 7), (3, 2), "free"), [((1, 1), "water")]
        self.assertEqual(how_many_fit(*game, record), 1000)
        self.assertEqual(fitting(*game, record), helper.told_fitting(*game, record))
        self.assertEqual(fitting(*helper.JUST_1000, []), helper.told_hidings(*helper.JUST_1000))

    def test_more_than_1000_fit(self):
        game, record = ((3, 5), (1, 1, 1, 1), "free"), [((0, 0), "water")]
        self.assertEqual(how_many_fit(*game, record), 1001)
        helper.refused(self, TooMany, None, fitting, *game, record)
        helper.refused(self, TooMany, None, fitting, *helper.JUST_1001, [])
        helper.refused(self, TooMany, None, fitting, *helper.JUST_20000, [])

    def test_few_fit_where_many_are(self):
        game = helper.JUST_20000
        record = [((0, 0), "sunk"), ((5, 0), "hit"), ((2, 1), "hit"), ((0, 7), "water"), ((0, 3), "water")]
        found = fitting(*game, record)
        self.assertEqual(len(found), how_many_fit(*game, record))
        self.assertTrue(0 < len(found) < 1000)
        answers = [answer for cell, answer in record]
        for hiding in found:
            self.assertEqual(helper.told_answers(hiding, [cell for cell, answer in record]), answers)
        self.assertEqual(how_many_fit(*game, []), 20000)

    def test_near_20000(self):
        sheet = NEAR_20000[0]
        self.assertEqual(how_many_fit(*NEAR_20000, []), len(helper.told_hidings(*NEAR_20000)))
        for record in [[], [((1, 3), "hit")], [((0, 0), "water"), ((2, 2), "hit"), ((2, 3), "sunk")]]:
            found = helper.told_fitting(*NEAR_20000, record)
            self.assertEqual(how_many_fit(*NEAR_20000, record), len(found))
            self.assertEqual(chances(*NEAR_20000, record), helper.told_chances(sheet, found))
            self.assertEqual(sure(*NEAR_20000, record), helper.told_sure(sheet, found, record))
            self.assertEqual(parts_of(*NEAR_20000, record, (3, 6)), helper.told_parts(found, record, (3, 6)))
            self.assertEqual(best_shot(*NEAR_20000, record), helper.told_best(sheet, found, record))

    def test_records_of_all_cells(self):
        for game in helper.SMALL_GAMES:
            for turn, hiding in enumerate(helper.told_hidings(*game)[:3]):
                cells = helper.shuffled(game[0], turn)
                record = list(zip(cells, helper.told_answers(hiding, cells)))
                found = helper.told_fitting(*game, record)
                self.assertIn(hiding, found)
                self.assertEqual(fitting(*game, record), found)
                self.assertEqual(sure(*game, record), ([], []))
                self.assertEqual(chances(*game, record), helper.told_chances(game[0], found))
                helper.refused(self, NoShot, None, best_shot, *game, record)
                helper.refused(self, NoShot, cells[-1], parts_of, *game, record, cells[-1])
                helper.refused(self, NoCell, (-1, 0), parts_of, *game, record, (-1, 0))

    def test_all_cells_shot_and_none_fits(self):
        record = [((0, column), "water") for column in range(4)]
        helper.refused(self, NoHiding, None, best_shot, *LINE, record)
        helper.refused(self, NoHiding, None, parts_of, *LINE, record, (0, 0))
        helper.refused(self, NoHiding, None, parts_of, *LINE, record, (0, 4))

    def test_refusals_of_parts(self):
        for sheet, fleet in [((1, 4), (2,)), ((4, 3), (2, 2)), ((8, 8), (3,))]:
            record = [((0, 0), "water")]
            for cell in helper.off_cells(sheet):
                helper.refused(self, NoCell, cell, parts_of, sheet, fleet, "sides", record, cell)
                helper.refused(self, NoHiding, None, parts_of, sheet, fleet, "sides", [((0, 0), "sunk")], cell)
            helper.refused(self, NoShot, (0, 0), parts_of, sheet, fleet, "sides", record, (0, 0))
            helper.refused(self, NoHiding, None, parts_of, sheet, fleet, "sides", [((0, 0), "sunk")], (0, 0))
            helper.refused(self, NoHiding, None, parts_of, sheet, fleet, "sides", [((0, 0), "sunk")], (0, 1))

    def test_by_name_and_unchanged(self):
        game = [(3, 3), (2, 1), "sides"]
        record = [((1, 1), "hit"), ((0, 0), "water")]
        hiding = helper.told_fitting(*game, record)[0]
        helper.check_call(self, is_record, "sheet thing", [(3, 3), record])
        helper.check_call(self, is_record, "sheet thing", [(3, 3), [[[1, 1], "hit"]]])
        helper.check_call(self, answers_of, "hiding cells", [hiding, [(1, 1), (0, 0)]])
        helper.check_call(self, fits, "hiding record", [hiding, record])
        for function in [how_many_fit, fitting, chances, sure, best_shot]:
            helper.check_call(self, function, "sheet fleet rule record", game + [record])
        helper.check_call(self, parts_of, "sheet fleet rule record cell", game + [record, (0, 1)])


if __name__ == "__main__":
    unittest.main()
