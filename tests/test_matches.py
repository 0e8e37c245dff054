"""fleethide.matches: promise 19, and 2, 3 and 8 where they speak of it."""

import itertools
import unittest

import helper
from fleethide.errors import NoCell, NoHiding, NoShot, NothingLeft, Over
from fleethide.matches import Match

GAMES = [game for game in helper.SMALL_GAMES if len(helper.told_hidings(*game)) > 1]
LINE = ((1, 4), (2,), "free")
LEFT, MID, RIGHT = [((0, column, "along", 2),) for column in range(3)]


def sides_of(game, turn):
    """Two hidings of the game, others at each turn."""
    found = helper.told_hidings(*game)
    return found[(turn * 13 + 5) % len(found)], found[(turn * 29 + 1) % len(found)]


def told_play(sides, cells):
    """The shots (side, cell, answer) of a match, each side shooting at its cells in their order, till it ends."""
    shots, side, left = [], 0, [list(cells[0]), list(cells[1])]
    while told_winner(sides, shots) is None:
        shot = [cell for shooter, cell, answer in shots if shooter == side]
        cell = left[side].pop(0)
        answer = helper.told_answers(sides[1 - side], shot + [cell])[-1]
        shots.append((side, cell, answer))
        side = 1 - side if answer == "water" else side
    return shots


def told_record(shots, side):
    return [(cell, answer) for shooter, cell, answer in shots if shooter == side]


def told_afloat(sides, shots, side):
    shot = {cell for cell, answer in told_record(shots, 1 - side)}
    return [ship[3] for ship in sides[side] if not helper.body(ship) <= shot]


def told_winner(sides, shots):
    lost = [side for side in (0, 1) if told_afloat(sides, shots, side) == []]
    return 1 - lost[0] if lost else None


def told_turn(shots):
    """Whose turn it is, gone through from the first shot on."""
    side = 0
    for shooter, cell, answer in shots:
        side = {"water": 1 - side, "hit": side, "sunk": side}[answer]
    return side


def plays():
    """Matches of all kinds: the game, both hidings, and all shots to the end."""
    for game in GAMES:
        for turn in range(3):
            cells = helper.shuffled(game[0], turn), helper.shuffled(game[0], turn + 4)
            sides = sides_of(game, turn)
            yield game, sides, told_play(sides, cells)


class MatchTest(unittest.TestCase):
    def stands(self, match, sides, shots):
        """See that the match tells all just as these shots have it."""
        self.assertEqual(match.turn(), told_turn(shots))
        winner = told_winner(sides, shots)
        if winner is None:
            self.assertIsNone(match.winner())
        else:
            self.assertEqual((match.winner(), match.turn()), (winner, winner))
            self.assertIs(type(match.winner()), int)
        self.assertIs(type(match.turn()), int)
        for side in (0, 1):
            self.assertEqual(match.record(side), told_record(shots, side))
            self.assertEqual(match.afloat(side), told_afloat(sides, shots, side))

    def played(self, game, sides, shots):
        match = Match(*game, *sides)
        for side, cell, answer in shots:
            self.assertEqual(match.shoot(cell), answer)
        return match


class MadeTest(MatchTest):
    def test_at_first(self):
        for game in GAMES:
            for turn in range(4):
                sides = sides_of(game, turn)
                match = Match(*game, *sides)
                self.stands(match, sides, [])
                self.assertEqual((match.turn(), match.winner()), (0, None))
                self.assertEqual((match.record(0), match.record(1)), ([], []))
                self.assertEqual((match.afloat(0), match.afloat(1)), (list(game[1]), list(game[1])))

    def test_no_hiding_in_either_place(self):
        for game in GAMES[::9] + [LINE]:
            found = helper.told_hidings(*game)
            written = {repr(hiding) for hiding in found}
            for thing in helper.mutants(found[-1], helper.ODD_THINGS[::3] + [True, 1]):
                if repr(thing) in written:
                    self.stands(Match(*game, thing, found[0]), (thing, found[0]), [])
                else:
                    helper.refused(self, NoHiding, None, Match, *game, thing, found[0])
                    helper.refused(self, NoHiding, None, Match, *game, found[0], thing)
                    helper.refused(self, NoHiding, None, Match, *game, thing, thing)

    def test_anything_in_either_place(self):
        for thing in helper.ODD_THINGS:
            helper.refused(self, NoHiding, None, Match, *LINE, thing, LEFT)
            helper.refused(self, NoHiding, None, Match, *LINE, LEFT, thing)
            helper.refused(self, NoHiding, None, Match, *LINE, thing, None)

    def test_hidings_of_other_games(self):
        near = ((0, 0, "along", 1), (0, 1, "along", 1))
        apart = ((0, 0, "along", 1), (0, 2, "along", 1))
        game = ((1, 3), (1, 1), "sides")
        for other in [near, apart[::-1], apart[:1], apart + ((0, 1, "along", 1),), ((0, 0, "along", 2),) * 2,
                      (apart[0], apart[0]), (apart[0], (0, 3, "along", 1)), list(apart), (list(apart[0]), apart[1])]:
            helper.refused(self, NoHiding, None, Match, *game, other, apart)
            helper.refused(self, NoHiding, None, Match, *game, apart, other)
        self.stands(Match(*game, apart, apart), (apart, apart), [])
        self.stands(Match((1, 3), (1, 1), "free", near, apart), (near, apart), [])

    def test_games_without_hidings(self):
        for game in helper.NO_HIDINGS:
            for thing in [(), None, tuple((0, 0, "along", length) for length in game[1])]:
                helper.refused(self, NoHiding, None, Match, *game, thing, thing)

    def test_by_names(self):
        match = Match(second=RIGHT, rule="free", first=LEFT, fleet=(2,), sheet=(1, 4))
        self.assertEqual(match.shoot(cell=(0, 3)), "hit")
        self.assertEqual(match.shoot(cell=(0, 1)), "water")
        self.assertEqual(match.shoot(cell=(0, 1)), "hit")
        self.assertEqual(match.record(side=0), [((0, 3), "hit"), ((0, 1), "water")])
        self.assertEqual((match.record(side=1), match.afloat(side=1)), ([((0, 1), "hit")], [2]))


class ShotTest(MatchTest):
    def test_shot_by_shot_to_the_end(self):
        winners = []
        for game, sides, shots in plays():
            match = Match(*game, *sides)
            for many, (side, cell, answer) in enumerate(shots):
                self.stands(match, sides, shots[:many])
                self.assertEqual(match.turn(), side)
                self.assertEqual(match.shoot(cell), answer, (game, sides, shots, many))
            self.stands(match, sides, shots)
            winners.append(match.winner())
        self.assertGreater(min(winners.count(0), winners.count(1)), 20)

    def test_whose_turn(self):
        game = ((2, 3), (2, 1), "sides")
        hiding = ((0, 0, "along", 2), (1, 2, "along", 1))
        match = Match(*game, hiding, hiding)
        for cell, answer, turn in [((1, 0), "water", 1), ((0, 2), "water", 0), ((0, 1), "hit", 0), ((0, 0), "sunk", 0),
                                   ((1, 1), "water", 1), ((1, 2), "sunk", 1), ((0, 0), "hit", 1), ((1, 0), "water", 0),
                                   ((0, 2), "water", 1)]:
            self.assertEqual(match.shoot(cell), answer)
            self.assertEqual((match.turn(), match.winner()), (turn, None))
        self.assertEqual((match.afloat(0), match.afloat(1)), ([2], [1]))
        self.assertEqual(match.shoot((0, 1)), "sunk")
        self.assertEqual((match.turn(), match.winner()), (1, 1))
        self.assertEqual((match.afloat(0), match.afloat(1)), ([], [1]))

    def test_each_shoots_at_the_others_hiding(self):
        match = Match(*LINE, LEFT, RIGHT)
        self.assertEqual(match.shoot((0, 0)), "water")
        self.assertEqual([match.shoot((0, 0)), match.shoot((0, 1))], ["hit", "sunk"])
        self.assertEqual((match.winner(), match.turn()), (1, 1))
        match = Match(*LINE, LEFT, RIGHT)
        self.assertEqual([match.shoot((0, 3)), match.shoot((0, 2))], ["hit", "sunk"])
        self.assertEqual((match.winner(), match.turn()), (0, 0))
        self.assertEqual((match.record(0), match.record(1)), ([((0, 3), "hit"), ((0, 2), "sunk")], []))

    def test_afloat_in_the_order_of_the_hiding(self):
        game = ((4, 4), (3, 2, 2, 1), "free")
        hiding = ((3, 0, "along", 3), (0, 0, "along", 2), (1, 0, "along", 2), (0, 3, "along", 1))
        for order in itertools.permutations(range(4)):
            match = Match(*game, hiding, hiding)
            left = [0, 1, 2, 3]
            for at in order:
                self.assertIsNone(match.winner())
                answers = [match.shoot(cell) for cell in sorted(helper.body(hiding[at]))]
                self.assertEqual(answers, ["hit"] * (hiding[at][3] - 1) + ["sunk"])
                left.remove(at)
                self.assertEqual(match.afloat(1), [hiding[ship][3] for ship in left])
                self.assertEqual(match.afloat(0), [3, 2, 2, 1])
            self.assertEqual(match.winner(), 0)

    def test_the_least_match(self):
        match = Match((1, 1), (1,), "corners", ((0, 0, "along", 1),), ((0, 0, "along", 1),))
        self.assertEqual(match.shoot((0, 0)), "sunk")
        self.assertEqual((match.winner(), match.turn(), match.afloat(0), match.afloat(1)), (0, 0, [1], []))
        helper.refused(self, Over, None, match.shoot, (0, 0))

    def test_a_great_match(self):
        game = ((8, 8), (8, 8, 8), "corners")
        sides = tuple((row, 0, "along", 8) for row in (0, 2, 7)), tuple((0, column, "down", 8) for column in (1, 4, 6))
        shots = told_play(sides, (helper.shuffled((8, 8), 2), helper.shuffled((8, 8), 3)))
        self.stands(self.played(game, sides, shots), sides, shots)


class RefusedTest(MatchTest):
    def test_each_alone(self):
        for game, sides, shots in list(plays())[::5]:
            for many in sorted({0, 1, len(shots) // 2, len(shots) - 1}):
                match = self.played(game, sides, shots[:many])
                for cell in helper.off_cells(game[0]):
                    helper.refused(self, NoCell, cell, match.shoot, cell)
                for cell, answer in told_record(shots[:many], told_turn(shots[:many])):
                    helper.refused(self, NoShot, cell, match.shoot, cell)
                self.stands(match, sides, shots[:many])
                self.assertEqual(match.shoot(shots[many][1]), shots[many][2])

    def test_over_goes_first(self):
        for game, sides, shots in list(plays())[::5]:
            match = self.played(game, sides, shots)
            for cell in helper.off_cells(game[0]) + helper.grid(game[0]):
                helper.refused(self, Over, None, match.shoot, cell)
            self.stands(match, sides, shots)

    def test_both_sides_may_shoot_at_one_cell(self):
        match = Match(*LINE, LEFT, RIGHT)
        self.assertEqual([match.shoot((0, 1)), match.shoot((0, 2)), match.shoot((0, 2)), match.shoot((0, 0))],
                         ["water", "water", "hit", "water"])
        helper.refused(self, NoShot, (0, 2), match.shoot, (0, 2))
        self.assertEqual(match.shoot((0, 1)), "hit")
        helper.refused(self, NoShot, (0, 1), match.shoot, (0, 1))
        helper.refused(self, NoShot, (0, 2), match.shoot, (0, 2))
        helper.refused(self, NoCell, (1, 1), match.shoot, (1, 1))
        self.assertEqual(match.record(1), [((0, 2), "water"), ((0, 1), "hit")])

    def test_a_refused_shot_is_not_taken_back(self):
        match = Match(*LINE, LEFT, RIGHT)
        helper.refused(self, NoCell, (0, 4), match.shoot, (0, 4))
        helper.refused(self, NothingLeft, None, match.back)
        match.shoot((0, 3))
        helper.refused(self, NoShot, (0, 3), match.shoot, (0, 3))
        self.assertIsNone(match.back())
        self.stands(match, (LEFT, RIGHT), [])
        helper.refused(self, NothingLeft, None, match.back)


class BackTest(MatchTest):
    def test_back_to_the_very_beginning(self):
        for game, sides, shots in list(plays())[::2]:
            match = self.played(game, sides, shots)
            for many in range(len(shots) - 1, -1, -1):
                self.assertIsNone(match.back())
                self.stands(match, sides, shots[:many])
            for again in range(2):
                helper.refused(self, NothingLeft, None, match.back)
                self.stands(match, sides, [])

    def test_what_is_taken_back_was_never_shot(self):
        for game, sides, shots in list(plays())[::4]:
            match = self.played(game, sides, shots)
            for many in range(len(shots) // 2, len(shots)):
                match.back()
            for side, cell, answer in shots[len(shots) // 2:]:
                self.assertEqual((match.turn(), match.shoot(cell)), (side, answer))
            self.stands(match, sides, shots)
            for shot in shots:
                match.back()
            other = told_play(sides, (helper.shuffled(game[0], 7), helper.shuffled(game[0], 8)))
            for many, (side, cell, answer) in enumerate(other):
                self.assertEqual(match.shoot(cell), answer)
                match.back()
                self.stands(match, sides, other[:many])
                self.assertEqual(match.shoot(cell), answer)
            self.stands(match, sides, other)

    def test_behind_the_end(self):
        match = Match(*LINE, MID, MID)
        self.assertEqual([match.shoot((0, 1)), match.shoot((0, 2))], ["hit", "sunk"])
        helper.refused(self, Over, None, match.shoot, (0, 0))
        match.back()
        self.assertEqual((match.winner(), match.turn(), match.afloat(1)), (None, 0, [2]))
        helper.refused(self, NoShot, (0, 1), match.shoot, (0, 1))
        self.assertEqual(match.shoot((0, 3)), "water")
        self.assertEqual((match.winner(), match.turn()), (None, 1))
        self.assertEqual([match.shoot((0, 2)), match.shoot((0, 1))], ["hit", "sunk"])
        self.assertEqual((match.winner(), match.turn()), (1, 1))


class OwnTest(MatchTest):
    def test_lists_told_are_the_askers_own(self):
        for game, sides, shots in list(plays())[::10]:
            many = len(shots) * 2 // 3
            match = self.played(game, sides, shots[:many])
            kept = [match.record(0), match.record(1), match.afloat(0), match.afloat(1)]
            told = [list(part) for part in kept]
            for ask in (match.record, match.afloat):
                for side in (0, 1):
                    helper.spoil(ask(side))
                    self.stands(match, sides, shots[:many])
            for side, cell, answer in shots[many:]:
                match.shoot(cell)
            self.assertEqual(kept, told)

    def test_two_at_once(self):
        one, other = Match(*LINE, LEFT, RIGHT), Match(*LINE, LEFT, RIGHT)
        third = Match((2, 2), (1,), "free", ((0, 0, "along", 1),), ((1, 1, "along", 1),))
        one.shoot((0, 0))
        self.stands(other, (LEFT, RIGHT), [])
        other.shoot((0, 3))
        one.shoot((0, 3))
        third.shoot((0, 1))
        self.stands(one, (LEFT, RIGHT), [(0, (0, 0), "water"), (1, (0, 3), "water")])
        self.stands(other, (LEFT, RIGHT), [(0, (0, 3), "hit")])
        other.shoot((0, 2))
        self.assertEqual((one.winner(), other.winner(), third.winner()), (None, 0, None))
        one.back()
        self.stands(one, (LEFT, RIGHT), [(0, (0, 0), "water")])
        self.stands(other, (LEFT, RIGHT), [(0, (0, 3), "hit"), (0, (0, 2), "sunk")])
        self.assertEqual((third.turn(), third.record(0)), (1, [((0, 1), "water")]))


if __name__ == "__main__":
    unittest.main()
