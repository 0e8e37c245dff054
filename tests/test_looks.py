"""fleethide.looks: promises 17 and 18, and 2 and 3 where they speak of them."""

import functools
import itertools
import unittest

import helper
from fleethide.errors import TooMany
from fleethide.looks import depth_of, least_plan, plan_holds

BIG_GAMES = [((8, 8), (8,), "free"), ((8, 8), (3,), "free"), ((5, 6), (4, 1), "sides"), ((4, 4), (3, 2), "corners")]
GAMES = [game for game in helper.SMALL_GAMES + BIG_GAMES if helper.told_hidings(*game)]
FAR_CELLS = [(-1, -1), (8, 8), (0, helper.LONG), (-helper.LONG, 3)]


def points(cells):
    """A hiding of ships of length 1 on the cells."""
    return tuple(sorted((row, column, "along", 1) for row, column in cells))


def told_end(plan, hiding):
    """The number at which the plan ends for the hiding, by the words of 17."""
    if plan[0] == "known":
        return plan[1]
    return told_end(plan[3 if plan[1] in helper.lying(hiding) else 2], hiding)


def told_holds(hidings, plan):
    return [told_end(plan, hiding) for hiding in hidings] == list(range(len(hidings)))


def told_depth(plan):
    return 0 if plan[0] == "known" else 1 + max(told_depth(plan[2]), told_depth(plan[3]))


def told_alike(hidings):
    """All pairs of numbers of hidings that have ships on the same cells, rising."""
    pairs = itertools.combinations(range(len(hidings)), 2)
    return sorted(pair for pair in pairs if len({frozenset(helper.lying(hidings[number])) for number in pair}) == 1)


def can_part(hidings, looks):
    """Whether some plan of so many looks parts all the hidings, by trying all of them."""
    bodies = [helper.lying(hiding) for hiding in hidings]
    shown = {frozenset(n for n, cells in enumerate(bodies) if cell in cells) for cell in set().union(*bodies)}

    @functools.lru_cache(maxsize=None)
    def parted(group, left):
        if len(group) == 1:
            return True
        halves = [(group & lot, group - lot) for lot in shown if group & lot and group - lot]
        return left > 0 and any(parted(one, left - 1) and parted(other, left - 1) for one, other in halves)

    return parted(frozenset(range(len(hidings))), looks)


def some_lists():
    """Lists of 1 to 10 hidings of one sheet, in any order."""
    for turn, game in enumerate(GAMES):
        found = helper.told_hidings(*game)
        for many in range(1, min(10, len(found)) + 1):
            step = 1 + (turn + many) % max(1, len(found) // many)
            yield helper.mixed(found[::step][:many], turn + many)
        yield helper.mixed(found, turn)[-10:]


def mixed_lists():
    """Lists of hidings of one sheet, but of unlike fleets and rules."""
    for turn in range(12):
        found = {hiding for sheet, fleet, rule in GAMES if sheet == (3, 3)
                 for hiding in helper.told_hidings(sheet, fleet, rule)[turn::17]}
        yield helper.mixed(sorted(found), turn)[:4 + turn % 7]


def parted_lists():
    return [hidings for hidings in itertools.chain(some_lists(), mixed_lists()) if not told_alike(hidings)]


def changed(plan, cells, numbers):
    """The plan, and plans that come of it by one thing changed."""
    yield plan
    for cell in cells:
        yield ("look", cell, plan, plan)
        yield ("look", cell, plan, ("known", 0))
        yield ("look", cell, ("known", -1), plan)
    if plan[0] == "known":
        yield from [("known", number) for number in numbers]
        return
    word, at, without, within = plan
    yield ("look", at, within, without)
    yield without
    yield within
    yield from [("look", cell, without, within) for cell in cells]
    yield from [("look", at, part, within) for part in changed(without, cells[::3], numbers[::2])]
    yield from [("look", at, without, part) for part in changed(within, cells[1::3], numbers[::2])]


def chain(looks, last):
    """A plan of so many looks behind one another, all at a cell without ships."""
    plan = ("known", last)
    for at in range(looks):
        plan = ("look", (7, 7), plan, ("known", at))
    return plan


LINE = [((0, column, "along", 2),) for column in range(3)]
LINE_PLAN = ("look", (0, 1), ("known", 2), ("look", (0, 0), ("known", 1), ("known", 0)))


class PlanHoldsTest(unittest.TestCase):
    def test_written_out(self):
        self.assertIs(plan_holds(LINE, LINE_PLAN), True)
        self.assertIs(plan_holds(LINE[::-1], LINE_PLAN), False)
        self.assertIs(plan_holds([LINE[2], LINE[1], LINE[0]], ("look", (0, 3), ("look", (0, 2), ("known", 2),
                                                                              ("known", 1)), ("known", 0))), True)
        self.assertIs(plan_holds(LINE[:1], ("known", 0)), True)
        self.assertIs(plan_holds(LINE[:2], ("known", 0)), False)

    def test_one_thing_otherwise(self):
        known = [("known", 0), ("known", 1), ("known", 2)]
        end = ("look", (0, 0), known[1], known[0])
        for plan, holds in [
            (("look", (0, 1), end, known[2]), False),
            (("look", (0, 2), known[2], end), False),
            (("look", (0, 4), known[2], end), False),
            (("look", (0, 1), known[2], ("look", (0, 0), known[0], known[1])), False),
            (("look", (0, 1), ("known", 3), end), False),
            (("look", (0, 1), ("known", -1), end), False),
            (("look", (0, 1), ("known", helper.LONG), end), False),
            (("look", (0, 1), known[2], known[0]), False),
            (("look", (0, 1), known[2], ("look", (0, 2), known[0], known[1])), True),
            (("look", (0, 1), ("look", (0, 3), known[1], known[2]), end), True),
            (("look", (0, 1), ("look", (0, 3), known[2], known[1]), end), False),
        ]:
            self.assertIs(plan_holds(LINE, plan), holds, plan)

    def test_no_ship_lies_off_the_sheet(self):
        for cell in helper.off_cells((1, 4)) + FAR_CELLS:
            self.assertIs(plan_holds(LINE, ("look", cell, LINE_PLAN, ("known", -1))), True)
            self.assertIs(plan_holds(LINE, ("look", cell, ("known", 0), LINE_PLAN)), False)
            self.assertIs(plan_holds(LINE[:1], ("look", cell, ("known", 0), ("known", 1))), True)

    def test_a_way_that_no_hiding_goes_may_end_anywhere(self):
        for number in [0, 1, 2, 3] + helper.ODD_NUMBERS:
            plan = ("look", (0, 1), LINE_PLAN, ("look", (0, 1), ("known", number), LINE_PLAN))
            self.assertIs(plan_holds(LINE, plan), True)

    def test_of_changed_plans(self):
        seen = {True: 0, False: 0}
        for hidings in parted_lists()[::6]:
            cells = sorted(set().union(*[helper.lying(hiding) for hiding in hidings]))[:6] + FAR_CELLS
            numbers = [len(hidings), len(hidings) - 1, 0, 1, -1, helper.LONG]
            for plan in changed(least_plan(hidings)[2], cells, numbers):
                holds = told_holds(hidings, plan)
                self.assertIs(plan_holds(hidings, plan), holds, (hidings, plan))
                self.assertEqual(depth_of(plan), told_depth(plan))
                seen[holds] += 1
        self.assertGreater(min(seen.values()), 500)

    def test_of_another_list(self):
        for hidings in parted_lists()[::3]:
            plan = least_plan(hidings)[2]
            for other in [hidings[1:], hidings[:-1], hidings[::-1], hidings + hidings[:1], hidings[1:] + hidings[:1]]:
                self.assertIs(plan_holds(other, plan), told_holds(other, plan), (other, plan))

    def test_of_hidings_alike(self):
        alike = helper.told_hidings((2, 2), (2, 2), "free")
        for plan in [("known", 0), ("known", 1), ("look", (0, 0), ("known", 0), ("known", 1)),
                     ("look", (9, 9), ("known", 1), ("known", 0))]:
            self.assertIs(plan_holds(alike, plan), False)

    def test_of_many_hidings(self):
        hidings = [((row, column, "along", 1),) for row, column in helper.grid((8, 8))]
        plan = ("known", 63)
        for number in range(62, -1, -1):
            plan = ("look", (number // 8, number % 8), plan, ("known", number))
        self.assertIs(plan_holds(hidings, plan), True)
        self.assertIs(plan_holds(hidings[::-1], plan), False)
        self.assertEqual(depth_of(plan), 63)


class DepthTest(unittest.TestCase):
    def test_written_out(self):
        for number in [0, 5] + helper.ODD_NUMBERS:
            self.assertEqual(depth_of(("known", number)), 0)
        one = ("look", (0, 0), ("known", 3), ("known", -1))
        self.assertEqual(depth_of(one), 1)
        for plan in [("look", (9, 9), one, ("known", 0)), ("look", (0, 0), ("known", 0), one),
                     ("look", (0, 1), one, one)]:
            self.assertEqual(depth_of(plan), 2)
        self.assertEqual(depth_of(LINE_PLAN), 2)
        self.assertEqual(depth_of(("look", (-5, 0), LINE_PLAN, one)), 3)
        self.assertEqual(depth_of(("look", (-5, 0), one, LINE_PLAN)), 3)

    def test_far_plans(self):
        for looks in [1, 50, 5000]:
            self.assertEqual(depth_of(chain(looks, 0)), looks)
            self.assertIs(plan_holds(LINE[:1], chain(looks, 0)), True)
            self.assertIs(plan_holds(LINE[:1], chain(looks, 1)), False)


class LeastPlanTest(unittest.TestCase):
    def parts(self, hidings):
        """See that a plan is told that holds, and that none of fewer looks parts the hidings."""
        told = least_plan(hidings)
        self.assertIs(type(told), tuple)
        word, depth, plan = told
        self.assertEqual(word, "plan")
        self.assertTrue(told_holds(hidings, plan), (hidings, plan))
        self.assertIs(plan_holds(hidings, plan), True)
        self.assertEqual((depth, depth_of(plan)), (told_depth(plan), told_depth(plan)))
        self.assertFalse(depth and can_part(hidings, depth - 1), hidings)
        return depth

    def test_of_small_and_big_games(self):
        depths = set()
        for hidings in parted_lists():
            depths.add((len(hidings), self.parts(hidings)))
        self.assertEqual({many for many, depth in depths}, set(range(1, 11)))
        self.assertIn((1, 0), depths)
        self.assertIn((2, 1), depths)
        self.assertGreaterEqual(len({depth for many, depth in depths if many == 10}), 3)

    def test_each_look_shows_but_one(self):
        for many in range(1, 11):
            hidings = [points([cell]) for cell in helper.shuffled((2, 5), 1)[:many]]
            self.assertEqual(self.parts(hidings), many - 1)

    def test_each_look_shows_half(self):
        spots = [(0, 0), (0, 2), (0, 4)]
        hidings = [points([(0, 6)] + [spot for bit, spot in enumerate(spots) if code >> bit & 1]) for code in range(8)]
        for turn in range(5):
            self.assertEqual(self.parts(helper.mixed(hidings, turn)), 3)
        self.assertEqual([self.parts(hidings[:many]) for many in range(1, 9)], [0, 1, 2, 2, 3, 3, 3, 3])
        self.assertEqual(self.parts(hidings + [points([(1, 1)]), points([(1, 3)])]), 4)

    def test_the_most_even_look_is_not_always_best(self):
        # The look at (2, 0) parts five from three; behind it four more are needed, behind another one three.
        pairs = [((1, 2), (2, 0)), ((2, 0), (2, 1)), ((0, 2), (2, 0)), ((0, 0), (1, 0)), ((1, 0), (2, 0)),
                 ((1, 2), (2, 1)), ((2, 0), (2, 2)), ((1, 1), (2, 2))]
        self.assertEqual(self.parts([points(pair) for pair in pairs]), 4)
        self.assertEqual(self.parts([points(pair) for pair in pairs if (2, 0) in pair]), 4)
        for turn in range(30):
            cells = helper.shuffled((3, 4), turn)
            hidings = {points(cells[at % 5:at % 5 + 1 + (at * turn) % 4] + [cells[6 + at % 3]][:at % 2])
                       for at in range(10)}
            self.parts(helper.mixed(sorted(hidings), turn))

    def test_one_hiding(self):
        for game in GAMES:
            self.assertEqual(least_plan(helper.told_hidings(*game)[:1]), ("plan", 0, ("known", 0)))

    def test_two_hidings(self):
        for one, other in itertools.permutations(helper.told_hidings((3, 3), (2, 1), "sides")[::5], 2):
            self.assertEqual(self.parts([one, other]), 1)


class AlikeTest(unittest.TestCase):
    def test_written_out(self):
        self.assertEqual(least_plan(helper.told_hidings((2, 2), (2, 2), "free")), ("alike", 0, 1))
        square = helper.told_hidings((2, 2), (2, 2), "free")
        edge = [((0, 0, "along", 2),), ((1, 0, "along", 2),)]
        self.assertEqual(least_plan([edge[0], square[1], edge[1], square[0]]), ("alike", 1, 3))
        self.assertEqual(least_plan(square[::-1] + edge), ("alike", 0, 1))

    def test_the_first_two_as_tuples_are_compared(self):
        square, block = helper.told_hidings((2, 2), (2, 2), "free"), helper.told_hidings((3, 3), (3, 3, 3), "free")
        self.assertEqual(len(block), 2)
        self.assertEqual(least_plan([square[0], block[0], block[1], square[1]]), ("alike", 0, 3))
        self.assertEqual(least_plan([block[1], square[0], square[1], block[0]]), ("alike", 0, 3))
        self.assertEqual(least_plan([block[1], square[0], block[0], square[1]]), ("alike", 0, 2))

    def test_three_alike(self):
        whole = [((0, 0, "along", 2), (1, 0, "along", 2)), ((0, 0, "down", 2), (0, 1, "down", 2)),
                 points(helper.grid((2, 2)))]
        for order in itertools.permutations(whole):
            self.assertEqual(least_plan(list(order)), ("alike", 0, 1))
            self.assertEqual(least_plan([LINE[0]] + list(order) + [LINE[1]]), ("alike", 1, 2))

    def test_of_any_lists(self):
        told = []
        for hidings in itertools.chain(some_lists(), mixed_lists()):
            pairs = told_alike(hidings)
            if pairs:
                self.assertEqual(least_plan(hidings), ("alike",) + pairs[0], hidings)
                told.append(pairs[0])
        self.assertGreater(len(set(told)), 10)

    def test_parted_by_their_cells_alone(self):
        # The same ships' lengths, other cells; or the same cells but for one.
        self.assertEqual(least_plan([points([(0, 0), (0, 1)]), ((0, 0, "along", 2),)]), ("alike", 0, 1))
        self.assertEqual(least_plan([points([(0, 0), (0, 2)]), ((0, 0, "along", 2),)])[:2], ("plan", 1))
        self.assertEqual(least_plan([points([(0, 0)]), ((0, 0, "along", 2),)])[:2], ("plan", 1))


class TooManyTest(unittest.TestCase):
    def test_none_and_more_than_ten(self):
        helper.refused(self, TooMany, None, least_plan, [])
        found = helper.told_hidings(*helper.JUST_1000)
        for many in [11, 12, 20, 1000]:
            helper.refused(self, TooMany, None, least_plan, found[:many])
        self.assertIn(least_plan(found[:10])[0], ("plan", "alike"))

    def test_ahead_of_alike(self):
        square = helper.told_hidings((2, 2), (2, 2), "free")
        others = [points([cell]) for cell in helper.grid((3, 3))]
        helper.refused(self, TooMany, None, least_plan, square + others)
        self.assertEqual(least_plan(square + others[:8]), ("alike", 0, 1))


class OwnTest(unittest.TestCase):
    def test_by_name_and_unchanged(self):
        for hidings in [LINE, LINE[:1], helper.told_hidings((2, 2), (2, 2), "free")]:
            helper.check_call(self, least_plan, "hidings", [hidings])
            helper.check_call(self, plan_holds, "hidings plan", [hidings, LINE_PLAN])
        helper.check_call(self, depth_of, "plan", [LINE_PLAN])


if __name__ == "__main__":
    unittest.main()
