"""fleethide.seekers: promise 12, and 2, 3, 10 and 11 where they speak of it."""

import itertools
import unittest

import helper
from fleethide.answerers import Answerer
from fleethide.errors import NoCell, NoHiding, NoShot, NothingLeft
from fleethide.records import best_shot, how_many_fit, sure
from fleethide.seekers import Seeker

GAMES = [game for game in helper.SMALL_GAMES if helper.told_hidings(*game)]
FEW_GAMES = [((1, 4), (2,), "free"), ((2, 3), (2, 1), "sides"), ((3, 3), (3, 2, 1), "free"), ((3, 3), (2, 2), "sides"),
             ((3, 4), (3, 2), "corners"), ((3, 3), (1, 1), "corners")]


def told_seeker(game, record):
    seeker = Seeker(*game)
    for cell, answer in record:
        seeker.tell(cell, answer)
    return seeker


def plays(game):
    """Whole records of a game, each as one of its hidings answers."""
    found = helper.told_hidings(*game)
    for turn in range(3):
        cells = helper.shuffled(game[0], turn)
        hiding = found[(turn * 41 + 7) % len(found)]
        yield list(zip(cells, helper.told_answers(hiding, cells)))


class SeekerTest(unittest.TestCase):
    def stands(self, seeker, game, record):
        """See that the seeker tells all just as the record has it."""
        self.assertEqual(seeker.record(), record)
        many = how_many_fit(*game, record)
        self.assertEqual((seeker.left(), len(seeker)), (many, many))
        self.assertEqual(seeker.sure(), sure(*game, record))
        if len(record) == game[0][0] * game[0][1]:
            helper.refused(self, NoShot, None, seeker.best)
        else:
            self.assertEqual(seeker.best(), best_shot(*game, record))

    def stands_as_counted(self, seeker, game, record):
        """See the same, counted by going through all tuples of ships."""
        found = helper.told_fitting(*game, record)
        self.assertEqual((seeker.left(), len(seeker)), (len(found), len(found)))
        self.assertEqual(seeker.record(), record)
        self.assertEqual(seeker.sure(), helper.told_sure(game[0], found, record))
        if helper.told_unshot(game[0], record):
            self.assertEqual(seeker.best(), helper.told_best(game[0], found, record))


class MadeTest(SeekerTest):
    def test_at_first(self):
        for game in GAMES:
            self.stands(Seeker(*game), game, [])

    def test_without_hidings(self):
        for game in helper.SMALL_GAMES + helper.NO_HIDINGS:
            if not helper.told_hidings(*game):
                helper.refused(self, NoHiding, None, Seeker, *game)

    def test_sides_where_the_rule_is_left_out(self):
        for sheet, fleet in [((2, 3), (1, 1)), ((3, 4), (3, 2)), ((3, 3), (2, 2))]:
            many = [len(helper.told_hidings(sheet, fleet, rule)) for rule in helper.RULES]
            self.assertEqual(len(set(many)), 3)
            self.assertEqual(Seeker(sheet, fleet).left(), many[1])
            self.assertEqual(Seeker(sheet, fleet), Seeker(sheet, fleet, "sides"))
        helper.refused(self, NoHiding, None, Seeker, (2, 2), (2, 2))

    def test_by_names(self):
        seeker = Seeker(fleet=(2,), rule="free", sheet=(1, 4))
        self.assertIsNone(seeker.tell(answer="hit", cell=(0, 1)))
        self.stands(seeker, ((1, 4), (2,), "free"), [((0, 1), "hit")])
        self.assertIsNone(seeker.back())


class ToldTest(SeekerTest):
    def test_shot_by_shot_and_back(self):
        for game in GAMES:
            for record in plays(game):
                seeker = Seeker(*game)
                for many, (cell, answer) in enumerate(record, start=1):
                    self.assertIsNone(seeker.tell(cell, answer))
                    if many % 3 == 0 or many == len(record):
                        self.stands(seeker, game, record[:many])
                for many in range(len(record) - 1, -1, -1):
                    self.assertIsNone(seeker.back())
                    if many % 3 == 1 or many == 0:
                        self.stands(seeker, game, record[:many])
                helper.refused(self, NothingLeft, None, seeker.back)

    def test_as_counted(self):
        for game in FEW_GAMES:
            for record in plays(game):
                seeker = Seeker(*game)
                self.stands_as_counted(seeker, game, [])
                for many, (cell, answer) in enumerate(record, start=1):
                    seeker.tell(cell, answer)
                    self.stands_as_counted(seeker, game, record[:many])

    def test_another_way_on_behind_one_taken_back(self):
        for game in FEW_GAMES:
            one, other, *rest = plays(game)
            seeker = told_seeker(game, one[:3])
            for many in range(3):
                seeker.back()
            for many, (cell, answer) in enumerate(other, start=1):
                seeker.tell(cell, answer)
                seeker.back()
                self.stands_as_counted(seeker, game, other[:many - 1])
                seeker.tell(cell, answer)
                self.stands_as_counted(seeker, game, other[:many])

    def test_written_out(self):
        seeker = Seeker((1, 4), (2,), "free")
        self.assertEqual(seeker.best(), ((0, 0), (2, 1, 0)))
        seeker.tell((0, 1), "hit")
        self.assertEqual((seeker.left(), len(seeker)), (2, 2))
        self.assertEqual(seeker.sure(), ([(0, 3)], []))
        self.assertEqual(seeker.best(), ((0, 0), (1, 0, 1)))
        seeker.tell((0, 0), "water")
        self.assertEqual(seeker.sure(), ([(0, 3)], [(0, 2)]))
        seeker.tell((0, 2), "sunk")
        self.assertEqual(seeker.record(), [((0, 1), "hit"), ((0, 0), "water"), ((0, 2), "sunk")])
        self.assertEqual(seeker.best(), ((0, 3), (1, 0, 0)))
        seeker.tell((0, 3), "water")
        self.assertEqual(seeker.sure(), ([], []))
        helper.refused(self, NoShot, None, seeker.best)

    def test_of_20000(self):
        game = helper.JUST_20000
        record = [((0, 0), "sunk"), ((5, 0), "hit"), ((2, 1), "hit"), ((0, 7), "water"), ((0, 3), "water")]
        seeker = Seeker(*game)
        self.assertEqual((seeker.left(), len(seeker)), (20000, 20000))
        for many, (cell, answer) in enumerate(record, start=1):
            seeker.tell(cell, answer)
            self.stands(seeker, game, record[:many])


class RefusedTest(SeekerTest):
    def ask_all(self, seeker, game, record):
        """Tell each cell and each answer, on the sheet and off it, and take back what was not refused."""
        sheet = game[0]
        shot = [cell for cell, answer in record]
        for cell, answer in itertools.product(helper.grid(sheet) + helper.off_cells(sheet), helper.ANSWERS):
            if cell not in helper.grid(sheet):
                helper.refused(self, NoCell, cell, seeker.tell, cell, answer)
            elif cell in shot:
                helper.refused(self, NoShot, cell, seeker.tell, cell, answer)
            elif not helper.told_fitting(*game, record + [(cell, answer)]):
                helper.refused(self, NoHiding, None, seeker.tell, cell, answer)
            else:
                seeker.tell(cell, answer)
                self.assertEqual(seeker.record(), record + [(cell, answer)])
                seeker.back()
        self.stands_as_counted(seeker, game, record)

    def test_each_cell_and_answer(self):
        for game in FEW_GAMES:
            for record in plays(game):
                for many in [0, 1, 2, len(record) // 2, len(record)]:
                    self.ask_all(told_seeker(game, record[:many]), game, record[:many])

    def test_a_cell_shot_before_goes_ahead_of_no_hiding(self):
        seeker = Seeker((1, 4), (2,), "free")
        seeker.tell((0, 1), "hit")
        for answer in helper.ANSWERS:
            helper.refused(self, NoShot, (0, 1), seeker.tell, (0, 1), answer)
        helper.refused(self, NoHiding, None, seeker.tell, (0, 3), "sunk")
        helper.refused(self, NoCell, (0, 4), seeker.tell, (0, 4), "sunk")
        self.stands(seeker, ((1, 4), (2,), "free"), [((0, 1), "hit")])

    def test_what_is_refused_is_not_taken_back(self):
        seeker = Seeker((1, 4), (2,), "free")
        helper.refused(self, NothingLeft, None, seeker.back)
        helper.refused(self, NoHiding, None, seeker.tell, (0, 0), "sunk")
        helper.refused(self, NothingLeft, None, seeker.back)
        seeker.tell((0, 0), "water")
        seeker.tell((0, 3), "hit")
        helper.refused(self, NoShot, (0, 0), seeker.tell, (0, 0), "water")
        helper.refused(self, NoCell, (1, 0), seeker.tell, (1, 0), "water")
        seeker.back()
        self.stands(seeker, ((1, 4), (2,), "free"), [((0, 0), "water")])
        seeker.back()
        helper.refused(self, NothingLeft, None, seeker.back)
        self.stands(seeker, ((1, 4), (2,), "free"), [])


class EqualTest(SeekerTest):
    def alike(self, one, other, same):
        for left, right in [(one, other), (other, one)]:
            self.assertIs(left == right, same)
            self.assertIs(left != right, not same)

    def test_by_whatever_deeds(self):
        for game in FEW_GAMES:
            one, other, *rest = plays(game)
            seeker = told_seeker(game, other[:2])
            seeker.back()
            seeker.back()
            self.alike(seeker, Seeker(*game), True)
            for many, (cell, answer) in enumerate(one):
                self.alike(seeker, told_seeker(game, one[:many]), True)
                if many:
                    self.alike(seeker, Seeker(*game), False)
                seeker.tell(cell, answer)
                self.alike(seeker, told_seeker(game, one[:many]), False)
            self.alike(seeker, seeker, True)
            self.stands(seeker, game, one)

    def test_the_record_counts(self):
        game = ((2, 3), (2,), "free")
        shots = [((0, 0), "water"), ((1, 1), "water")]
        self.alike(told_seeker(game, shots), told_seeker(game, shots[::-1]), False)
        self.alike(told_seeker(game, shots[:1]), told_seeker(game, shots[1:]), False)
        self.alike(told_seeker(game, [((0, 0), "hit")]), told_seeker(game, [((0, 0), "water")]), False)

    def test_the_record_counts_where_the_hidings_left_are_the_same(self):
        game = ((2, 3), (1,), "free")
        shots = [((0, 0), "sunk"), ((1, 1), "water"), ((1, 2), "water")]
        self.alike(told_seeker(game, shots), told_seeker(game, [shots[0], shots[2], shots[1]]), False)
        self.alike(told_seeker(game, shots[:2]), told_seeker(game, [shots[0], shots[2]]), False)

    def test_sheet_fleet_and_rule_count(self):
        games = [((3, 4), (2, 1), "free"), ((4, 3), (2, 1), "free"), ((3, 3), (2, 1), "free"), ((3, 4), (2, 2), "free"),
                 ((3, 4), (2,), "free"), ((3, 4), (1,), "free"), ((3, 4), (2, 1), "sides"), ((3, 4), (2, 1), "corners")]
        for one, other in itertools.product(games, games):
            self.alike(Seeker(*one), Seeker(*other), one == other)
            shots = [((0, 0), "water"), ((2, 1), "water")]
            self.alike(told_seeker(one, shots), told_seeker(other, shots), one == other)

    def test_the_rule_counts_where_the_hidings_are_the_same(self):
        seekers = [Seeker((2, 2), (2,), rule) for rule in helper.RULES]
        for one, other in itertools.combinations(seekers, 2):
            self.alike(one, other, False)

    def test_nothing_else(self):
        game = ((1, 4), (2,), "free")
        seeker = Seeker(*game)
        for thing in helper.ODD_THINGS + [game, list(game), seeker.record(), seeker.left(), Answerer(*game), Seeker]:
            self.alike(seeker, thing, False)
        seeker.tell((0, 0), "water")
        answerer = Answerer(*game)
        self.assertEqual(answerer.shoot((0, 0)), "water")
        for thing in [seeker.record(), answerer, (*game, seeker.record())]:
            self.alike(seeker, thing, False)


class OwnTest(SeekerTest):
    def test_lists_told_are_the_askers_own(self):
        game = ((2, 3), (2, 1), "sides")
        record = next(plays(game))[:3]
        seeker = told_seeker(game, record)
        for ask in [seeker.record, seeker.sure, seeker.best]:
            helper.spoil(ask())
            self.stands(seeker, game, record)
        kept = seeker.record()
        seeker.back()
        self.assertEqual(kept, record)
        self.stands(seeker, game, record[:2])

    def test_two_at_once(self):
        game, other = ((2, 3), (2, 1), "sides"), ((3, 3), (2, 2), "free")
        first, second, third = Seeker(*game), Seeker(*game), Seeker(*other)
        one, two = list(plays(game))[:2]
        for many in range(4):
            first.tell(*one[many])
            second.tell(*two[many])
        first.back()
        self.stands(first, game, one[:3])
        self.stands(second, game, two[:4])
        self.stands(third, other, [])


if __name__ == "__main__":
    unittest.main()
