"""What promises 2 and 3, and the interface, say of the whole program."""

import ast
import copy
import inspect
import itertools
import pathlib
import unittest

import fleethide
import helper
from fleethide import errors
from fleethide.answerers import Answerer
from fleethide.counts import counts_of, settled, with_counts
from fleethide.desk import Desk
from fleethide.hidings import hiding_at, hidings, how_many, number_of
from fleethide.looks import depth_of, least_plan, plan_holds
from fleethide.matches import Match
from fleethide.nets import is_net, least_net, lie_apart, net_of
from fleethide.records import (answers_of, best_shot, chances, fits, fitting, how_many_fit, is_record, parts_of, sure)
from fleethide.seekers import Seeker
from fleethide.sheets import cells_of, is_fleet, is_hiding, is_sheet, is_ship, keep, ships_of
from fleethide.texts import cell_text, drawing, read_drawing, read_record, record_text

GAME = ((3, 3), (2, 1), "sides")
HIDING = ((0, 0, "along", 2), (2, 2, "along", 1))
OTHER = ((1, 1, "down", 2), (0, 0, "along", 1))
RECORD = [((0, 1), "hit"), ((1, 0), "water")]
NO_RECORD = [((0, 0), "sunk"), ((0, 1), "sunk")]
PLAN = ("look", (0, 1), ("known", 1), ("known", 0))
ANY = ((None, None, None), (None, None, None))
MARKS = [((0, 0), "ship"), ((1, 1), "water")]
GREAT = helper.JUST_1001

# Each function, the names of its arguments as the interface tells them, and questions that are not refused.
FUNCTIONS = [
    (is_sheet, "thing", [[(3, 3)], [[3, 3]], [None]]),
    (is_ship, "sheet thing", [[(3, 3), HIDING[0]], [(3, 3), [0, 0, "along", 2]]]),
    (is_fleet, "thing", [[(2, 1)], [[2, 1]], [(1, 2)]]),
    (ships_of, "sheet length", [[(3, 3), 2], [(3, 3), 1], [(3, 3), 4], [(3, 3), 100]]),
    (cells_of, "ship", [[(0, 0, "along", 3)], [(1, 2, "down", 2)]]),
    (keep, "rule one other", [["free", HIDING[0], OTHER[0]], ["corners", HIDING[0], OTHER[0]]]),
    (is_hiding, "sheet fleet rule thing", [[*GAME, HIDING], [*GAME, list(HIDING)], [*GAME, [[[1]]]]]),
    (how_many, "sheet fleet rule", [[*GAME], [*GREAT]]),
    (hidings, "sheet fleet rule", [[*GAME], [(1, 1), (2,), "free"]]),
    (hiding_at, "sheet fleet rule number", [[*GAME, 0], [*GREAT, 1000]]),
    (number_of, "sheet fleet rule thing", [[*GAME, HIDING], [*GAME, OTHER]]),
    (is_record, "sheet thing", [[(3, 3), RECORD], [(3, 3), [[(0, 0), "hit"]]], [(3, 3), tuple(RECORD)]]),
    (answers_of, "hiding cells", [[HIDING, [(0, 1), (2, 2), (0, 0), (1, 1)]], [HIDING, []]]),
    (fits, "hiding record", [[HIDING, RECORD], [OTHER, RECORD], [HIDING, []]]),
    (how_many_fit, "sheet fleet rule record", [[*GAME, RECORD], [*GAME, NO_RECORD], [*GREAT, []]]),
    (fitting, "sheet fleet rule record", [[*GAME, RECORD], [*GAME, NO_RECORD], [*GAME, []]]),
    (chances, "sheet fleet rule record", [[*GAME, RECORD], [*GAME, []]]),
    (sure, "sheet fleet rule record", [[*GAME, RECORD], [*GAME, []]]),
    (parts_of, "sheet fleet rule record cell", [[*GAME, RECORD, (0, 0)], [*GAME, [], (2, 2)]]),
    (best_shot, "sheet fleet rule record", [[*GAME, RECORD], [*GAME, []]]),
    (net_of, "rows columns length", [[5, 4, 3], [1, 1, 2], [7, 7, 4], [60, 60, 7]]),
    (is_net, "rows columns length cells", [[2, 2, 2, [(0, 0), (1, 1)]], [2, 2, 2, [(0, 0), (0, 1)]]]),
    (lie_apart, "ships", [[[HIDING[0], OTHER[0]]], [[HIDING[0], HIDING[0]]], [[]]]),
    (least_net, "rows columns length", [[5, 4, 3], [1, 1, 2], [7, 7, 4], [60, 60, 7]]),
    (counts_of, "sheet hiding", [[(3, 3), HIDING], [(3, 3), OTHER]]),
    (with_counts, "sheet fleet rule rows columns marks", [[*GAME, *ANY, MARKS], [*GAME, (2, None, 1), ANY[1], []]]),
    (settled, "sheet fleet rule rows columns marks", [[*GAME, *ANY, MARKS], [*GAME, (9, None, 1), ANY[1], []]]),
    (plan_holds, "hidings plan", [[[HIDING, OTHER], PLAN], [[OTHER, HIDING], PLAN], [[], PLAN]]),
    (depth_of, "plan", [[PLAN], [("known", 0)]]),
    (least_plan, "hidings", [[[HIDING, OTHER]], [[HIDING]], [helper.told_hidings((2, 2), (2, 2), "free")]]),
    (cell_text, "cell", [[(0, 0)], [(7, 7)]]),
    (drawing, "sheet hiding", [[(3, 3), HIDING], [(3, 3), OTHER]]),
    (record_text, "record", [[RECORD], [[]]]),
    (read_drawing, "sheet fleet rule text", [[*GAME, "AA.\n...\n..B"]]),
    (read_record, "sheet text", [[(3, 3), "b1=hit a2=water"], [(3, 3), ""]]),
]
QUESTIONS = [(function, values) for function, names, many in FUNCTIONS for values in many]

CLASSES = [
    (Seeker, "sheet fleet rule", {"tell": "cell answer", "back": "", "record": "", "left": "", "sure": "", "best": ""}),
    (Answerer, "sheet fleet rule", {"shoot": "cell", "back": "", "record": "", "left": "", "sunk": "", "first": ""}),
    (Match, "sheet fleet rule first second", {"shoot": "cell", "back": "", "turn": "", "winner": "", "record": "side",
                                              "afloat": "side"}),
    (Desk, "", {"say": "row"}),
]

# What is refused with which class; the cell, and the question.
REFUSED = [
    ("TooMany", None, hidings, [*GREAT]),
    ("NoNumber", None, hiding_at, [*GAME, 1000]),
    ("NoNumber", None, hiding_at, [*GAME, -1]),
    ("NoHiding", None, number_of, [*GAME, HIDING[::-1]]),
    ("TooMany", None, fitting, [*GREAT, []]),
    ("NoHiding", None, chances, [*GAME, NO_RECORD]),
    ("NoHiding", None, sure, [*GAME, NO_RECORD]),
    ("NoHiding", None, best_shot, [*GAME, NO_RECORD]),
    ("NoShot", None, best_shot, [(1, 1), (1,), "free", [((0, 0), "sunk")]]),
    ("NoHiding", None, parts_of, [*GAME, NO_RECORD, (3, 3)]),
    ("NoCell", (3, 3), parts_of, [*GAME, RECORD, (3, 3)]),
    ("NoCell", (-1, helper.LONG), parts_of, [*GAME, RECORD, (-1, helper.LONG)]),
    ("NoShot", (0, 1), parts_of, [*GAME, RECORD, (0, 1)]),
    ("NoHiding", None, Seeker, [(1, 1), (2,), "free"]),
    ("NoHiding", None, Answerer, [(1, 1), (2,), "free"]),
    ("NoCounts", None, with_counts, [*GAME, (None,), ANY[1], []]),
    ("NoCounts", None, settled, [*GAME, *ANY, [((3, 3), "ship")]]),
    ("NoCounts", None, with_counts, [*GREAT, (None,), (None,) * 7, []]),
    ("TooMany", None, with_counts, [*GREAT, (None,) * 2, (None,) * 7, []]),
    ("TooMany", None, least_plan, [[]]),
    ("TooMany", None, least_plan, [helper.told_hidings(*GAME)[:11]]),
    ("NoHiding", None, Match, [*GAME, HIDING, HIDING[::-1]]),
    ("NoHiding", None, Match, [*GAME, None, HIDING]),
    ("NoText", None, read_drawing, [*GAME, "BB.\n...\n.A."]),
    ("NoText", None, read_record, [(3, 3), "a4=hit"]),
    ("NoRow", None, lambda row: Desk().say(row), ["left "]),
    ("NothingLeft", None, lambda row: Desk().say(row), ["back"]),
    ("NoCell", (7, 7), lambda row: Desk().say(row), ["parts h8"]),
    ("NoNumber", None, lambda row: Desk().say(row), ["draw 9999"]),
    ("NoHiding", None, lambda row: Desk().say(row), ["new 1 1 free 2"]),
]


def argument_names(function):
    return [name for name in inspect.signature(function).parameters if name != "self"]


def ask(question):
    function, values = question
    return function(*copy.deepcopy(values))


class ArgumentsTest(unittest.TestCase):
    def test_by_places_and_by_names_in_any_order(self):
        for function, names, many in FUNCTIONS:
            for values in many:
                helper.check_call(self, function, names, values)

    def test_names_as_told(self):
        for function, names, many in FUNCTIONS:
            self.assertEqual(argument_names(function), names.split(), function)
        for kind, names, methods in CLASSES:
            self.assertEqual(argument_names(kind), names.split(), kind)
            for method, told in methods.items():
                self.assertEqual(argument_names(getattr(kind, method)), told.split(), (kind, method))

    def test_the_rule_may_be_left_out_of_seekers_and_answerers(self):
        for kind in (Seeker, Answerer):
            self.assertEqual(inspect.signature(kind).parameters["rule"].default, "sides")

    def test_objects_by_names_in_any_order(self):
        for kind in (Seeker, Answerer):
            named = {"sheet": GAME[0], "fleet": GAME[1], "rule": "free"}
            many = kind(*GAME[:2], "free").left()
            for order in itertools.permutations(named):
                self.assertEqual(kind(**{name: named[name] for name in order}).left(), many)
            self.assertEqual(kind(fleet=GAME[1], sheet=GAME[0]).left(), kind(*GAME).left())
        named = {"sheet": GAME[0], "fleet": GAME[1], "rule": GAME[2], "first": HIDING, "second": OTHER}
        for order in itertools.permutations(named):
            self.assertEqual(Match(**{name: named[name] for name in order}).shoot((0, 0)), "sunk")


class OwnTest(unittest.TestCase):
    def test_the_same_question_has_the_same_answer(self):
        answers = [ask(question) for question in QUESTIONS]
        for order in [range(len(QUESTIONS)), reversed(range(len(QUESTIONS))), helper.mixed(range(len(QUESTIONS)), 3)]:
            for at in order:
                told = ask(QUESTIONS[at])
                self.assertEqual(repr(told), repr(answers[at]))
                helper.spoil(told)

    def test_refusals_change_no_answers(self):
        answers = [repr(ask(question)) for question in QUESTIONS]
        for name, cell, function, values in REFUSED:
            helper.refused(self, getattr(errors, name), cell, function, *copy.deepcopy(values))
        self.assertEqual([repr(ask(question)) for question in QUESTIONS], answers)

    def test_no_two_lists_told_are_one(self):
        for question in QUESTIONS:
            one, other = ask(question), ask(question)
            told = lists_in(one) + lists_in(other)
            self.assertEqual(len({id(found) for found in told}), len(told), question)

    def test_lists_handed_in_are_not_told(self):
        for function, values in QUESTIONS:
            handed = copy.deepcopy(values)
            told = function(*handed)
            self.assertFalse({id(found) for found in lists_in(handed)} & {id(found) for found in lists_in(told)})

    def test_lists_of_objects(self):
        seeker, answerer, match = Seeker(*GAME), Answerer(*GAME), Match(*GAME, HIDING, OTHER)
        seeker.tell((0, 1), "hit")
        answerer.shoot((0, 1))
        match.shoot((0, 1))
        asks = [seeker.record, seeker.sure, seeker.best, seeker.left, answerer.record, answerer.first, answerer.left,
                answerer.sunk, match.turn, match.winner, lambda: match.record(0), lambda: match.record(1),
                lambda: match.afloat(0), lambda: match.afloat(1)]
        answers = [repr(asked()) for asked in asks]
        for asked, other in itertools.product(asks, asks):
            told = asked()
            helper.spoil(told)
            helper.spoil(other())
        self.assertEqual([repr(asked()) for asked in asks], answers)

    def test_nothing_but_its_own_modules_is_drawn_in(self):
        for path in sorted(pathlib.Path(fleethide.__file__).parent.glob("*.py")):
            for row in ast.walk(ast.parse(path.read_text(encoding="utf-8"))):
                self.assertNotIsInstance(row, ast.Import, path)
                if isinstance(row, ast.ImportFrom):
                    self.assertTrue(row.module.startswith("fleethide."), (path, row.module))


def lists_in(thing):
    """All lists in the thing, itself too, lists within lists and tuples."""
    found = [thing] if isinstance(thing, list) else []
    if isinstance(thing, (list, tuple)):
        for part in thing:
            found += lists_in(part)
    return found


class RefusalsTest(unittest.TestCase):
    def test_each_of_its_own_class_with_its_cell(self):
        for name, cell, function, values in REFUSED:
            handed = copy.deepcopy(values)
            helper.refused(self, getattr(errors, name), cell, function, *handed)
            self.assertEqual(repr(handed), repr(values))

    def test_of_objects(self):
        seeker, answerer, match = Seeker(*GAME), Answerer(*GAME), Match(*GAME, HIDING, HIDING)
        for back, deed in [(seeker.back, lambda cell: seeker.tell(cell, "hit")), (answerer.back, answerer.shoot),
                           (match.back, match.shoot)]:
            helper.refused(self, errors.NothingLeft, None, back)
            helper.refused(self, errors.NoCell, (3, 0), deed, (3, 0))
            deed((0, 0))
            helper.refused(self, errors.NoShot, (0, 0), deed, (0, 0))
            helper.refused(self, errors.NoCell, (0, -1), deed, (0, -1))
        match.shoot((0, 1))
        match.shoot((2, 2))
        for cell in [(0, 0), (1, 1), (9, 9)]:
            helper.refused(self, errors.Over, None, match.shoot, cell)
        helper.refused(self, errors.NoHiding, None, seeker.tell, (2, 2), "hit")


class PromiseTest(unittest.TestCase):
    def test_one_who_seeks_and_one_who_answers(self):
        for game in [game for game in helper.SMALL_GAMES if helper.told_hidings(*game)][::3]:
            seeker, answerer = Seeker(*game), Answerer(*game)
            while answerer.sunk() < len(game[1]):
                cell, parts = seeker.best()
                answer = answerer.shoot(cell)
                seeker.tell(cell, answer)
                self.assertEqual(seeker.left(), max(parts))
                self.assertEqual(seeker.record(), answerer.record())
                found = fitting(*game, seeker.record())
                self.assertEqual((len(found), found[0]), (len(answerer), answerer.first()))
                self.assertTrue(all(fits(hiding, seeker.record()) for hiding in found))

    def test_a_match_is_answered_as_its_hidings_answer(self):
        for game in [game for game in helper.SMALL_GAMES if len(helper.told_hidings(*game)) > 2][::3]:
            found = helper.told_hidings(*game)
            first, second = found[1], found[-1]
            match, seekers = Match(*game, first, second), [Seeker(*game), Seeker(*game)]
            while match.winner() is None:
                side = match.turn()
                cell, parts = seekers[side].best()
                seekers[side].tell(cell, match.shoot(cell))
            for side, hiding in [(0, second), (1, first)]:
                self.assertEqual(match.record(side), seekers[side].record())
                self.assertTrue(fits(hiding, match.record(side)))
                self.assertEqual(read_record(game[0], record_text(match.record(side))), match.record(side))
                self.assertEqual(read_drawing(*game, drawing(game[0], hiding)), hiding)

    def test_a_desk_is_as_its_seeker(self):
        for sheet, fleet, rule in [GAME, ((2, 3), (2, 1), "free"), ((3, 4), (3, 2), "corners")]:
            desk, seeker = Desk(), Seeker(sheet, fleet, rule)
            desk.say(" ".join(["new", str(sheet[0]), str(sheet[1]), rule] + [str(length) for length in fleet]))
            hiding = hiding_at(sheet, fleet, rule, 3)
            for cell, answer in zip(helper.shuffled(sheet, 2), answers_of(hiding, helper.shuffled(sheet, 2))):
                desk.say(f"tell {cell_text(cell)} {answer}")
                seeker.tell(cell, answer)
                self.assertEqual(desk.say("record"), record_text(seeker.record()))
                for number, drawn in enumerate(fitting(sheet, fleet, rule, seeker.record())):
                    self.assertEqual(desk.say(f"draw {number}"), drawing(sheet, drawn).replace("\n", " / "))
                self.assertEqual(desk.say("left"), str(len(seeker)))


if __name__ == "__main__":
    unittest.main()
