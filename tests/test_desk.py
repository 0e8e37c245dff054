"""fleethide.desk: promise 21, and 2, 3, 12, 15 and 20 where they speak of it."""

import itertools
import unittest

import helper
from fleethide.desk import Desk
from fleethide.errors import NoCell, NoHiding, NoNumber, NoRow, NoShot, NothingLeft
from fleethide.nets import least_net

FIRST_GAME = ((4, 4), (2, 2), "sides")
LINE = ((1, 4), (2,), "free")
GAMES = [game for game in helper.SMALL_GAMES if helper.told_hidings(*game)]
ASKING = ["left", "record", "sure", "best"]
ROWS = ["new 1 4 free 2", "tell a1 hit", "back", "left", "record", "sure", "best", "parts a1", "draw 0", "net 8 8 3"]


def new_row(game):
    sheet, fleet, rule = game
    return " ".join(["new", str(sheet[0]), str(sheet[1]), rule] + [str(length) for length in fleet])


def cell_word(cell):
    return "abcdefgh"[cell[1]] + str(cell[0] + 1)


def told_listed(cells):
    return ",".join(cell_word(cell) for cell in cells) if cells else "none"


def told_drawn(sheet, hiding):
    lines = []
    for row in range(sheet[0]):
        signs = [[letter for letter, ship in zip("ABCD", hiding) if (row, column) in helper.body(ship)]
                 for column in range(sheet[1])]
        lines.append("".join(sign[0] if sign else "." for sign in signs))
    return " / ".join(lines)


def desk_of(game, record=()):
    desk = Desk()
    desk.say(new_row(game))
    for cell, answer in record:
        desk.say(f"tell {cell_word(cell)} {answer}")
    return desk


def plays(game):
    """Whole records of a game, each as one of its hidings answers."""
    found = helper.told_hidings(*game)
    for turn in range(2):
        cells = helper.shuffled(game[0], turn)
        yield list(zip(cells, helper.told_answers(found[(turn * 41 + 7) % len(found)], cells)))


class DeskTest(unittest.TestCase):
    def stands(self, desk, game, record):
        """See that the desk answers all just as the game and the record have it."""
        sheet = game[0]
        found = helper.told_fitting(*game, record)
        left = helper.told_unshot(sheet, record)
        self.assertEqual(desk.say("left"), str(len(found)))
        words = [f"{cell_word(cell)}={answer}" for cell, answer in record]
        self.assertEqual(desk.say("record"), " ".join(words) if words else "none")
        water, ships = helper.told_sure(sheet, found, record)
        self.assertEqual(desk.say("sure"), told_listed(water) + " / " + told_listed(ships))
        for cell in left:
            parts = helper.told_parts(found, record, cell)
            self.assertEqual(desk.say("parts " + cell_word(cell)), f"{parts[0]} {parts[1]} {parts[2]}")
        if left:
            cell, parts = helper.told_best(sheet, found, record)
            self.assertEqual(desk.say("best"), f"{cell_word(cell)} {parts[0]} {parts[1]} {parts[2]}")
        else:
            helper.refused(self, NoShot, None, desk.say, "best")
        for number in sorted({0, len(found) // 2, len(found) - 1}):
            self.assertEqual(desk.say(f"draw {number}"), told_drawn(sheet, found[number]))
        helper.refused(self, NoNumber, None, desk.say, f"draw {len(found)}")


class AnsweredTest(DeskTest):
    def test_at_first(self):
        self.stands(Desk(), FIRST_GAME, [])
        self.assertEqual(Desk().say("record"), "none")

    def test_of_small_games(self):
        for game in GAMES[::4]:
            for record in plays(game):
                desk = Desk()
                self.assertEqual(desk.say(new_row(game)), "ok")
                self.stands(desk, game, [])
                for many, (cell, answer) in enumerate(record, start=1):
                    self.assertEqual(desk.say(f"tell {cell_word(cell)} {answer}"), "ok")
                    if many % 3 == 0 or many == len(record):
                        self.stands(desk, game, record[:many])
                for many in range(len(record) - 1, -1, -1):
                    self.assertEqual(desk.say("back"), "ok")
                    if many % 4 == 0:
                        self.stands(desk, game, record[:many])
                helper.refused(self, NothingLeft, None, desk.say, "back")

    def test_written_out(self):
        desk = Desk()
        for row, answer in [
            ("new 1 4 free 2", "ok"), ("left", "3"), ("record", "none"), ("sure", "none / none"), ("best", "a1 2 1 0"),
            ("parts b1", "1 2 0"), ("draw 0", "AA.."), ("draw 2", "..AA"), ("tell b1 hit", "ok"), ("left", "2"),
            ("record", "b1=hit"), ("sure", "d1 / none"), ("best", "a1 1 0 1"), ("parts d1", "2 0 0"),
            ("parts c1", "1 0 1"),
            ("draw 1", ".AA."), ("tell a1 water", "ok"), ("sure", "d1 / c1"), ("tell d1 water", "ok"),
            ("sure", "none / c1"),
            ("record", "b1=hit a1=water d1=water"), ("best", "c1 0 0 1"), ("tell c1 sunk", "ok"),
            ("sure", "none / none"),
            ("back", "ok"), ("back", "ok"), ("record", "b1=hit a1=water"), ("net 8 8 3", "21"), ("left", "1"),
            ("new 2 3 sides 2 1", "ok"), ("record", "none"), ("draw 0", "AA. / ..B"), ("tell a2 sunk", "ok"),
            ("sure", "a1,b2 / c1"), ("tell c1 hit", "ok"), ("sure", "a1,b2 / none"), ("new 1 1 corners 1", "ok"),
            ("best", "a1 0 0 1"), ("sure", "none / a1"), ("draw 0", "A"),
        ]:
            self.assertEqual(desk.say(row), answer, row)

    def test_new_of_each_rule_and_many_lengths(self):
        desk = Desk()
        for game in GAMES:
            self.assertEqual(desk.say(new_row(game)), "ok")
            self.assertEqual(desk.say("left"), str(len(helper.told_hidings(*game))))
        self.assertEqual({len(fleet) for sheet, fleet, rule in GAMES}, {1, 2, 3, 4})

    def test_all_nets(self):
        desk = Desk()
        for rows, columns, length in itertools.product(range(1, 9), repeat=3):
            self.assertEqual(desk.say(f"net {rows} {columns} {length}"), str(least_net(rows, columns, length)))
        self.assertEqual([desk.say("net 1 1 1"), desk.say("net 2 2 8"), desk.say("net 1 8 3")], ["1", "0", "2"])
        self.stands(desk, FIRST_GAME, [])

    def test_all_cells(self):
        desk = Desk()
        desk.say("new 8 8 free 8")
        for cell in helper.grid((8, 8)):
            self.assertEqual(desk.say(f"parts {cell_word(cell)}"), "14 2 0")
            self.assertEqual(desk.say(f"tell {cell_word(cell)} water"), "ok")
            self.assertEqual(desk.say("record"), cell_word(cell) + "=water")
            desk.say("back")

    def test_draw_all(self):
        for game in [FIRST_GAME, ((3, 3), (3, 2, 1), "free")]:
            desk = desk_of(game)
            for number, hiding in enumerate(helper.told_hidings(*game)):
                self.assertEqual(desk.say(f"draw {number}"), told_drawn(game[0], hiding))

    def test_draw_among_those_that_fit(self):
        record = [((0, 0), "hit"), ((2, 2), "water")]
        desk = desk_of(FIRST_GAME, record)
        found = helper.told_fitting(*FIRST_GAME, record)
        drawn = [desk.say(f"draw {number}") for number in range(len(found))]
        self.assertEqual(drawn, [told_drawn((4, 4), hiding) for hiding in found])
        helper.refused(self, NoNumber, None, desk.say, f"draw {len(found)}")

    def test_draw_of_more_than_1000(self):
        desk = desk_of(helper.JUST_1001)
        self.assertEqual(desk.say("left"), "1001")
        self.assertEqual(desk.say("draw 1000"), "....... / ...ABCD")
        self.assertEqual(desk.say("draw 0"), "ABCD... / .......")
        for number in [1001, 1002, 9999]:
            helper.refused(self, NoNumber, None, desk.say, f"draw {number}")

    def test_of_20000(self):
        desk = desk_of(helper.JUST_20000)
        self.assertEqual(desk.say("left"), "20000")
        self.assertEqual(desk.say("draw 9999").count("A"), 7)
        for number in [10000, 19999, 20000]:
            helper.refused(self, NoRow, None, desk.say, f"draw {number}")

    def test_the_same_answers_again(self):
        desk = desk_of(((3, 3), (2, 1), "sides"), [((1, 1), "hit")])
        rows = ASKING + ["parts a1", "draw 1", "net 3 3 2"]
        answers = [desk.say(row) for row in rows]
        for order in (rows, rows[::-1], rows[3:] + rows[:3]):
            self.assertEqual({row: desk.say(row) for row in order}, dict(zip(rows, answers)))

    def test_by_name(self):
        self.assertEqual(Desk().say(row="net 8 8 3"), "21")
        for row in ["new 2 2 free 2", "tell a1 water", "left", "record", "sure", "best", "parts a1", "draw 0",
                    "net 2 2 2"]:
            self.assertIs(type(Desk().say(row)), str)


class NoRowTest(DeskTest):
    def setUp(self):
        self.record = [((0, 0), "water"), ((2, 2), "hit")]
        self.desk = desk_of(FIRST_GAME, self.record)

    def none_are_rows(self, things):
        for thing in things:
            helper.refused(self, NoRow, None, self.desk.say, thing)
        self.stands(self.desk, FIRST_GAME, self.record)

    def test_anything(self):
        self.none_are_rows(helper.ODD_THINGS)
        self.none_are_rows([["left"], ("left",), ["new", 1, 4, "free", 2], ("draw", 0), ["tell", "a1", "hit"], 4,
                            [["left"]]])

    def test_blanks(self):
        for row in ROWS:
            self.none_are_rows([" " + row, row + " ", "  " + row, row + "  ", row + "\n", "\n" + row, row + "\t"])
            if " " in row:
                self.none_are_rows([row.replace(" ", "  "), row.replace(" ", "  ", 1), row.replace(" ", "\n"),
                                    row.replace(" ", "\t"), row.replace(" ", ""), row.replace(" ", ",")])

    def test_words_more_or_fewer(self):
        for row in ROWS:
            words = row.split(" ")
            self.none_are_rows([" ".join(words + [more]) for more in ["x", "left", "a1", "none", "", "9", "0"]])
            self.none_are_rows([" ".join([more] + words) for more in ["x", "say", "1", ""]])
            if len(words) > 1:
                self.none_are_rows([" ".join(words[:many]) for many in range(1, len(words))])
                self.none_are_rows([" ".join(words[1:]), " ".join(words[::-1])])
        self.none_are_rows(["back a1", "back 1", "left 0", "record a1", "sure a1", "best a1", "parts", "parts a1 b1",
                            "draw",
                            "draw 0 1", "net 8 8", "net 8 8 3 3", "tell a1", "tell a1 hit hit", "tell a1 hit b1 hit"])

    def test_other_first_words(self):
        for row in ROWS:
            word, *rest = row.split(" ")
            for other in [word.upper(), word.title(), word + "s", word[:-1], word[::-1], word + ":", "", "_" + word,
                          "say"]:
                self.none_are_rows([" ".join([other] + rest)])
        self.none_are_rows(["", " ", "ok", "none", "chances", "shoot a1", "first", "sunk", "hit", "quit", "help",
                            "left\nleft"])

    def test_numbers_written_otherwise(self):
        wrong = ["0", "9", "10", "01", "+1", "-1", "1.", "1.0", "1_", "", "a", "one", "A", "12", "88", "18", "(1)",
                 "1,", "None"]
        for word in wrong + [str(helper.LONG)]:
            self.none_are_rows([f"net {word} 2 2", f"net 2 {word} 2", f"net 2 2 {word}", f"new {word} 4 free 2",
                                f"new 4 {word} free 2", f"new 4 4 free {word}", f"new 4 4 free 8 {word}",
                                f"new 4 4 free {word} 1", f"new 4 4 free 2 2 2 {word}"])

    def test_no_fleet(self):
        self.none_are_rows([f"new 4 4 sides {lengths}" for lengths in
                            ["1 2", "2 2 3", "3 1 2", "2 1 1 2", "1 1 1 1 1", "2 2 2 2 2", "4 3 2 1 1", "", "2,2",
                             "2 2,", "(2)"]])
        self.none_are_rows(["new 4 4 sides", "new 4 4", "new 4", "new"])

    def test_no_rule(self):
        for rule in ["", "side", "Sides", "SIDES", "corner", "free,", "none", "2", "water", "freesides", "along",
                     "sides\n"]:
            self.none_are_rows([f"new 4 4 {rule} 2 2"])
        self.none_are_rows(["new 4 4 2 2", "new 4 4 2 2 sides", "new sides 4 4 2 2", "new 4 sides 4 2 2",
                            "new 4 4 free sides 2"])

    def test_no_cell_of_any_sheet(self):
        wrong = ["", "a", "1", "a0", "a9", "i1", "i9", "a10", "a01", "A1", "1a", "aa", "11", "a1.", "a-1", "a+1",
                 "aa1", "a11",
                 "z1", "(0,0)", "0,0", "a1,b1", "a1=hit", "none", "a_1", "`1", "a:", "a/", "@1"]
        for word in wrong:
            self.none_are_rows([f"tell {word} water", f"tell {word} hit", f"parts {word}"])

    def test_no_answer(self):
        for word in ["", "Water", "WATER", "wet", "hits", "sink", "ship", "none", "ok", "1", "hit,", "a1", "water\n",
                     "wate"]:
            self.none_are_rows([f"tell b1 {word}", f"tell a1 {word}", f"tell h8 {word}"])

    def test_no_place(self):
        self.none_are_rows([f"draw {word}" for word in
                            ["", "00", "01", "000", "0000", "007", "00000", "10000", "99999", "-1", "+1", "-0", "1.",
                             "1.0", "a",
                             "1a", "a1", "0x1", "1_0", "1,0", "none", "one", "1\n", "\n1", str(helper.LONG)]])


class RefusedTest(DeskTest):
    def test_as_the_seeker_refuses(self):
        record = [((0, 0), "water"), ((2, 2), "hit")]
        desk = desk_of(FIRST_GAME, record)
        for cell in helper.grid((8, 8)):
            word = cell_word(cell)
            for answer in helper.ANSWERS:
                row = f"tell {word} {answer}"
                if max(cell) > 3:
                    helper.refused(self, NoCell, cell, desk.say, row)
                elif cell in [(0, 0), (2, 2)]:
                    helper.refused(self, NoShot, cell, desk.say, row)
                elif not helper.told_fitting(*FIRST_GAME, record + [(cell, answer)]):
                    helper.refused(self, NoHiding, None, desk.say, row)
                else:
                    self.assertEqual(desk.say(row), "ok")
                    desk.say("back")
            if max(cell) > 3:
                helper.refused(self, NoCell, cell, desk.say, f"parts {word}")
            elif cell in [(0, 0), (2, 2)]:
                helper.refused(self, NoShot, cell, desk.say, f"parts {word}")
        self.stands(desk, FIRST_GAME, record)

    def test_nothing_left(self):
        desk = Desk()
        helper.refused(self, NothingLeft, None, desk.say, "back")
        desk.say("tell a1 water")
        helper.refused(self, NoShot, (0, 0), desk.say, "tell a1 hit")
        self.assertEqual(desk.say("back"), "ok")
        helper.refused(self, NothingLeft, None, desk.say, "back")
        desk.say("tell a1 water")
        desk.say("new 4 4 sides 2 2")
        helper.refused(self, NothingLeft, None, desk.say, "back")
        self.stands(desk, FIRST_GAME, [])

    def test_new_without_hidings(self):
        record = [((0, 1), "hit")]
        desk = desk_of(LINE, record)
        for game in helper.NO_HIDINGS + [((1, 1), (8, 8, 8, 8), "corners")]:
            helper.refused(self, NoHiding, None, desk.say, new_row(game))
            self.stands(desk, LINE, record)

    def test_no_cell_is_left(self):
        for game in [LINE, ((1, 1), (1,), "free"), ((2, 2), (2,), "free")]:
            record = next(plays(game))
            desk = desk_of(game, record)
            helper.refused(self, NoShot, None, desk.say, "best")
            self.assertEqual(desk.say("sure"), "none / none")
            self.assertEqual(desk.say("left"), "1")
            helper.refused(self, NoShot, (0, 0), desk.say, "parts a1")
            helper.refused(self, NoCell, (7, 7), desk.say, "parts h8")

    def test_no_number(self):
        desk = desk_of(LINE)
        for number in [3, 4, 10, 99, 100, 1000, 9999]:
            helper.refused(self, NoNumber, None, desk.say, f"draw {number}")
        desk.say("tell a1 hit")
        self.assertEqual(desk.say("draw 0"), "AA..")
        helper.refused(self, NoNumber, None, desk.say, "draw 1")
        self.stands(desk, LINE, [((0, 0), "hit")])

    def test_the_row_goes_first(self):
        desk = desk_of(LINE, [((0, 0), "water")])
        for row in ["tell a1 wet", "tell h8 wet", "tell i1 hit", "tell a1 hit ", "parts a1 ", "parts h9", "back ",
                    "best a1",
                    "draw 09999", "new 2 2 sides 2 2 ", "new 1 1 side 2", "new 1 1 free 2 3"]:
            helper.refused(self, NoRow, None, desk.say, row)
        self.stands(desk, LINE, [((0, 0), "water")])


class TwoTest(DeskTest):
    def test_two_at_once(self):
        one, other = Desk(), Desk()
        one.say("tell a1 hit")
        self.stands(other, FIRST_GAME, [])
        other.say("new 1 4 free 2")
        self.stands(one, FIRST_GAME, [((0, 0), "hit")])
        other.say("tell d1 hit")
        one.say("tell b1 sunk")
        self.stands(one, FIRST_GAME, [((0, 0), "hit"), ((0, 1), "sunk")])
        self.stands(other, LINE, [((0, 3), "hit")])
        one.say("back")
        one.say("back")
        helper.refused(self, NothingLeft, None, one.say, "back")
        self.stands(other, LINE, [((0, 3), "hit")])
        self.stands(Desk(), FIRST_GAME, [])


if __name__ == "__main__":
    unittest.main()
