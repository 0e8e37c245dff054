"""fleethide.answerers: promise 13, and 2, 3 and 8 where they speak of it."""

import unittest

import helper
from fleethide.answerers import Answerer
from fleethide.errors import NoCell, NoHiding, NoShot, NothingLeft

GAMES = [game for game in helper.SMALL_GAMES if helper.told_hidings(*game)]


def told_shot(found, record, cell):
    """What is to be answered to the cell, and its parts."""
    parts = helper.told_parts(found, record, cell)
    return helper.ANSWERS[parts.index(max(parts))], parts


def shot_at(game, cells):
    answerer = Answerer(*game)
    for cell in cells:
        answerer.shoot(cell)
    return answerer


class AnswererTest(unittest.TestCase):
    def stands(self, answerer, game, record):
        """See that the answerer tells all just as the record has it."""
        found = helper.told_fitting(*game, record)
        self.assertEqual(answerer.record(), record)
        self.assertEqual((answerer.left(), len(answerer)), (len(found), len(found)))
        self.assertEqual(answerer.first(), found[0])
        shot = {cell for cell, answer in record}
        sunk = {len([1 for ship in hiding if helper.body(ship) <= shot]) for hiding in found}
        self.assertEqual(sunk, {answerer.sunk()})


class MadeTest(AnswererTest):
    def test_at_first(self):
        for game in GAMES:
            self.stands(Answerer(*game), game, [])

    def test_without_hidings(self):
        for game in helper.SMALL_GAMES + helper.NO_HIDINGS:
            if not helper.told_hidings(*game):
                helper.refused(self, NoHiding, None, Answerer, *game)

    def test_sides_where_the_rule_is_left_out(self):
        for sheet, fleet in [((2, 3), (1, 1)), ((3, 4), (3, 2)), ((3, 3), (2, 2))]:
            self.stands(Answerer(sheet, fleet), (sheet, fleet, "sides"), [])
        helper.refused(self, NoHiding, None, Answerer, (2, 2), (2, 2))

    def test_by_names(self):
        answerer = Answerer(fleet=(2,), rule="free", sheet=(1, 4))
        self.assertEqual(answerer.shoot(cell=(0, 1)), "hit")
        self.stands(answerer, ((1, 4), (2,), "free"), [((0, 1), "hit")])
        self.assertIsNone(answerer.back())


class ShotTest(AnswererTest):
    def test_what_most_hidings_fit(self):
        for game in GAMES:
            for turn in range(4):
                answerer, record, found = Answerer(*game), [], helper.told_hidings(*game)
                for cell in helper.shuffled(game[0], turn):
                    answer, parts = told_shot(found, record, cell)
                    self.assertEqual(answerer.shoot(cell), answer, (game, record, cell))
                    record.append((cell, answer))
                    found = [hiding for hiding in found
                             if helper.told_answers(hiding, [shot for shot, told in record])[-1] == answer]
                    self.assertEqual((answerer.left(), answerer.first()), (len(found), found[0]))
                    self.assertEqual(answerer.record(), record)
                self.stands(answerer, game, record)
                self.assertEqual(answerer.sunk(), len(game[1]))

    def test_as_many_of_several(self):
        self.assertEqual(told_shot(helper.told_hidings((1, 2), (1,), "free"), [], (0, 0)), ("water", (1, 0, 1)))
        self.assertEqual(Answerer((1, 2), (1,), "free").shoot((0, 0)), "water")
        game = ((1, 3), (2,), "free")
        self.assertEqual(told_shot(helper.told_hidings(*game), [], (0, 0)), ("water", (1, 1, 0)))
        self.assertEqual(Answerer(*game).shoot((0, 0)), "water")
        game = ((1, 3), (2, 1), "free")
        self.assertEqual(told_shot(helper.told_hidings(*game), [], (0, 0)), ("hit", (0, 1, 1)))
        self.assertEqual(Answerer(*game).shoot((0, 0)), "hit")

    def test_the_more_go_ahead_of_the_order(self):
        self.assertEqual(Answerer((1, 3), (2,), "free").shoot((0, 1)), "hit")
        self.assertEqual(Answerer((1, 1), (1,), "free").shoot((0, 0)), "sunk")
        self.assertEqual(Answerer((2, 2), (1, 1, 1), "free").shoot((1, 0)), "sunk")
        self.assertEqual(Answerer((1, 3), (1,), "free").shoot((0, 2)), "water")

    def test_written_out(self):
        answerer = Answerer((1, 4), (2,), "free")
        self.assertEqual([answerer.shoot((0, column)) for column in range(4)], ["water", "water", "hit", "sunk"])
        self.assertEqual(answerer.first(), ((0, 2, "along", 2),))
        self.assertEqual((answerer.left(), answerer.sunk()), (1, 1))

    def test_of_20000(self):
        game = helper.JUST_20000
        answerer = Answerer(*game)
        self.assertEqual((answerer.left(), len(answerer), answerer.sunk()), (20000, 20000, 0))
        for cell in helper.shuffled(game[0], 3):
            many = answerer.left()
            self.assertIn(answerer.shoot(cell), helper.ANSWERS)
            self.assertGreaterEqual(answerer.left() * 3, many)
        cells = [cell for cell, answer in answerer.record()]
        answers = [answer for cell, answer in answerer.record()]
        self.assertEqual(helper.told_answers(answerer.first(), cells), answers)
        self.assertEqual((answerer.left(), answerer.sunk()), (1, 4))


class RefusedTest(AnswererTest):
    def test_no_cell_and_no_shot(self):
        for game in GAMES[::4]:
            cells = helper.shuffled(game[0], 1)
            for many in [0, 1, len(cells) // 2, len(cells)]:
                answerer = shot_at(game, cells[:many])
                record = answerer.record()
                for cell in helper.off_cells(game[0]):
                    helper.refused(self, NoCell, cell, answerer.shoot, cell)
                for cell in cells[:many]:
                    helper.refused(self, NoShot, cell, answerer.shoot, cell)
                self.stands(answerer, game, record)

    def test_nothing_left(self):
        answerer = Answerer((1, 4), (2,), "free")
        helper.refused(self, NothingLeft, None, answerer.back)
        helper.refused(self, NoCell, (0, 4), answerer.shoot, (0, 4))
        helper.refused(self, NothingLeft, None, answerer.back)
        answerer.shoot((0, 0))
        helper.refused(self, NoShot, (0, 0), answerer.shoot, (0, 0))
        self.assertIsNone(answerer.back())
        helper.refused(self, NothingLeft, None, answerer.back)
        self.stands(answerer, ((1, 4), (2,), "free"), [])


class BackTest(AnswererTest):
    def test_back_shot_by_shot(self):
        for game in GAMES[::3]:
            cells = helper.shuffled(game[0], 2)
            answerer = shot_at(game, cells)
            whole = answerer.record()
            for many in range(len(cells) - 1, -1, -1):
                self.assertIsNone(answerer.back())
                self.assertEqual(answerer.record(), whole[:many])
                if many % 3 == 0:
                    self.stands(answerer, game, whole[:many])
            helper.refused(self, NothingLeft, None, answerer.back)

    def test_what_is_taken_back_was_never_shot(self):
        for game in GAMES[::3]:
            cells, others = helper.shuffled(game[0], 2), helper.shuffled(game[0], 3)
            answerer = shot_at(game, cells[:4])
            for cell in cells[:4]:
                answerer.back()
            for cell in others:
                answer = answerer.shoot(cell)
                answerer.back()
                self.assertEqual(answerer.shoot(cell), answer)
            self.assertEqual(answerer.record(), shot_at(game, others).record())


class OwnTest(AnswererTest):
    def test_lists_told_are_the_askers_own(self):
        game = ((2, 3), (2, 1), "sides")
        answerer = shot_at(game, [(0, 1), (1, 2)])
        record = answerer.record()
        helper.spoil(answerer.record())
        self.stands(answerer, game, record)
        answerer.shoot((0, 0))
        self.assertEqual(len(record), 2)

    def test_two_at_once(self):
        game, other = ((2, 3), (2, 1), "sides"), ((3, 3), (2, 2), "free")
        one, two, three = Answerer(*game), Answerer(*game), Answerer(*other)
        for cell in helper.grid(game[0])[:4]:
            one.shoot(cell)
        two.shoot((1, 1))
        self.assertEqual(one.record(), shot_at(game, helper.grid(game[0])[:4]).record())
        self.assertEqual(two.record(), shot_at(game, [(1, 1)]).record())
        self.stands(two, game, two.record())
        one.back()
        self.stands(one, game, one.record())
        self.stands(three, other, [])


if __name__ == "__main__":
    unittest.main()
