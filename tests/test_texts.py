"""fleethide.texts: promise 20, and 2, 3, 6 and 8 where they speak of it."""

import functools
import itertools
import unittest

import helper
from fleethide.errors import NoText
from fleethide.texts import cell_text, drawing, read_drawing, read_record, record_text

SIGNS = ".ABCDEZabh0189=,/ \n~"
LINE = ((1, 4), (2,), "free")
NO_TEXTS = [thing for thing in helper.ODD_THINGS if not isinstance(thing, str)]


def told_drawing(sheet, hiding):
    rows = [["."] * sheet[1] for row in range(sheet[0])]
    for letter, ship in zip("ABCD", hiding):
        for row, column in helper.body(ship):
            rows[row][column] = letter
    return "\n".join("".join(row) for row in rows)


@functools.lru_cache(maxsize=None)
def told_drawings(game):
    """All drawings of the game, each with its hiding."""
    return {told_drawing(game[0], hiding): hiding for hiding in helper.told_hidings(*game)}


def told_cell_text(cell):
    return chr(ord("a") + cell[1]) + str(cell[0] + 1)


def told_record_text(record):
    return " ".join(told_cell_text(cell) + "=" + answer for cell, answer in record)


def told_record(sheet, text):
    """The record that is written so, or None: by going through all words that may be written."""
    words = {told_record_text([(cell, answer)]): (cell, answer)
             for cell in helper.grid(sheet) for answer in helper.ANSWERS}
    if text == "":
        return []
    if not all(word in words for word in text.split(" ")):
        return None
    record = [words[word] for word in text.split(" ")]
    return record if len({cell for cell, answer in record}) == len(record) else None


def changed(text, signs):
    """The text, and texts that come of it by a sign changed, left out, added or exchanged with the next one."""
    yield text
    yield from [text + "\n", "\n" + text, text + " ", " " + text, text + text, text[::-1], text.lower(), text.upper()]
    yield from [text.replace("\n", " "), text.replace("\n", "\n\n"), text.replace("\n", ""), text.replace(" ", "  ")]
    yield from [text.replace(" ", "\n"), text.replace("\n", " / ")]
    for at in range(len(text) + 1):
        yield from [text[:at] + sign + text[at:] for sign in signs]
        yield from [text[:at] + sign + text[at + 1:] for sign in signs]
        yield text[:at] + text[at + 1:]
        yield text[:at] + text[at + 1:at + 2] + text[at:at + 1] + text[at + 2:]


class CellTest(unittest.TestCase):
    def test_all_cells(self):
        texts = [cell_text(cell) for cell in helper.grid((8, 8))]
        self.assertEqual(texts, [letter + figure for figure in "12345678" for letter in "abcdefgh"])

    def test_written_out(self):
        self.assertEqual(cell_text((4, 2)), "c5")
        self.assertEqual([cell_text(cell) for cell in [(0, 0), (0, 7), (7, 0), (7, 7)]], ["a1", "h1", "a8", "h8"])

    def test_somewhat_beyond(self):
        self.assertEqual([cell_text(cell) for cell in [(8, 8), (9, 0), (0, 9)]], ["i9", "a10", "j1"])


class DrawingTest(unittest.TestCase):
    def test_there_and_back(self):
        for game in helper.SMALL_GAMES + [((8, 8), (8,), "free"), ((8, 3), (7, 6), "sides")]:
            texts = []
            for hiding in helper.told_hidings(*game):
                texts.append(drawing(game[0], hiding))
                self.assertEqual(texts[-1], told_drawing(game[0], hiding))
                self.assertEqual(read_drawing(*game, texts[-1]), hiding)
            self.assertEqual(len(set(texts)), len(texts))

    def test_written_out(self):
        hiding = ((0, 0, "along", 3), (1, 4, "down", 2), (2, 1, "along", 1))
        self.assertEqual(drawing((3, 5), hiding), "AAA..\n....B\n.C..B")
        self.assertEqual(read_drawing((3, 5), (3, 2, 1), "corners", "AAA..\n....B\n.C..B"), hiding)
        self.assertEqual(drawing((1, 1), ((0, 0, "along", 1),)), "A")
        self.assertEqual(drawing((8, 1), ((0, 0, "down", 8),)), "A\nA\nA\nA\nA\nA\nA\nA")
        four = tuple((row, 0, "along", 1) for row in (0, 2, 4, 6))
        self.assertEqual(drawing((7, 1), four), "A\n.\nB\n.\nC\n.\nD")
        self.assertEqual(read_drawing((7, 1), (1, 1, 1, 1), "corners", "A\n.\nB\n.\nC\n.\nD"), four)

    def test_of_20000(self):
        game = helper.JUST_20000
        hiding = ((0, 0, "along", 7), (2, 0, "along", 5), (2, 6, "down", 3), (5, 0, "along", 1))
        self.assertTrue(helper.is_told(game[2], hiding))
        self.assertEqual(read_drawing(*game, drawing(game[0], hiding)), hiding)

    def reads(self, game, text):
        """See that the text is read as a hiding of the game where one is drawn so, and refused elsewhere."""
        drawn = told_drawings(game)
        if text in drawn:
            self.assertEqual(read_drawing(*game, text), drawn[text])
        else:
            helper.refused(self, NoText, None, read_drawing, *game, text)

    def test_changed_drawings(self):
        for game in helper.SMALL_GAMES[::5] + [((3, 3), (3, 2, 1), "sides"), ((3, 4), (2, 2, 2), "corners")]:
            found = helper.told_hidings(*game)
            for hiding in found[::1 + len(found) // 4]:
                for text in changed(told_drawing(game[0], hiding), SIGNS):
                    self.reads(game, text)

    def test_all_texts_of_few_signs(self):
        for game in [((2, 2), (2,), "free"), ((2, 2), (1, 1), "free"), ((2, 2), (1, 1), "corners"),
                     ((1, 5), (2, 1), "sides"), ((1, 5), (2, 2), "free"), ((3, 1), (1, 1), "sides"),
                     ((3, 1), (2, 1), "free")]:
            for many in range(6):
                for signs in itertools.product(".AB\n", repeat=many):
                    self.reads(game, "".join(signs))

    def test_letters_exchanged(self):
        alike = ((3, 3), (2, 2), "free")
        for hiding in helper.told_hidings(*alike):
            text = told_drawing(alike[0], hiding).translate(str.maketrans("AB", "BA"))
            helper.refused(self, NoText, None, read_drawing, *alike, text)
        for game in [((3, 3), (3, 2, 1), "free"), ((3, 4), (2, 2, 2), "free"), ((3, 3), (2, 2, 1, 1), "free")]:
            for hiding in helper.told_hidings(*game)[::7]:
                for letters in itertools.permutations("ABCD"):
                    self.reads(game, told_drawing(game[0], hiding).translate(str.maketrans("ABCD", "".join(letters))))

    def test_drawings_of_other_games(self):
        games = [((3, 3), (2, 1), "sides"), ((3, 3), (2, 1), "free"), ((3, 3), (2, 1), "corners"),
                 ((3, 3), (2,), "sides"),
                 ((3, 3), (2, 2), "sides"), ((3, 3), (3, 1), "sides"), ((2, 3), (2, 1), "sides"),
                 ((3, 2), (2, 1), "sides"),
                 ((3, 4), (2, 1), "sides"), ((3, 3), (2, 1, 1), "sides")]
        for game, other in itertools.product(games, games):
            for hiding in helper.told_hidings(*other):
                self.reads(game, told_drawing(other[0], hiding))

    def test_against_the_rule(self):
        near, corner = "A.\nAB", "A..\nA..\n.B."
        self.assertEqual(read_drawing((2, 2), (2, 1), "free", near), ((0, 0, "down", 2), (1, 1, "along", 1)))
        for rule in ("sides", "corners"):
            helper.refused(self, NoText, None, read_drawing, (2, 2), (2, 1), rule, near)
        for rule in ("free", "sides"):
            self.assertEqual(read_drawing((3, 3), (2, 1), rule, corner), ((0, 0, "down", 2), (2, 1, "along", 1)))
        helper.refused(self, NoText, None, read_drawing, (3, 3), (2, 1), "corners", corner)

    def test_no_straight_ships(self):
        for text in ["AA\nA.", "A.\n.A", "AA\nAA", ".A\nA.", "A.\n..", "..\n..", "AA\n..\n", "AA", "AA\n.", "AA\n...",
                     "A\nA",
                     "aa\n..", "BB\n..", "AB\n..", "AA\nBB", "AA\n. ", "AA\n0.", " AA\n..", "AA\r\n..", "AA\n\n..", "",
                     "\n"]:
            helper.refused(self, NoText, None, read_drawing, (2, 2), (2,), "free", text)
        for text in ["A.A", "AA.A", ".A.A.", "AAA.", "A.A.", "A..A"]:
            helper.refused(self, NoText, None, read_drawing, *LINE, text)

    def test_things_that_are_no_texts(self):
        for thing in NO_TEXTS + [[".", "A"], ("AA..",), ["AA.."], list("AA.."), LINE, ((0, 0, "along", 2),)]:
            helper.refused(self, NoText, None, read_drawing, *LINE, thing)
        for thing in helper.ODD_THINGS:
            helper.refused(self, NoText, None, read_drawing, *LINE, thing)

    def test_games_without_hidings(self):
        for game in helper.NO_HIDINGS:
            for text in ["", "A", "AA\n..", "AA\nBB", "A.\n.B"]:
                helper.refused(self, NoText, None, read_drawing, *game, text)


class RecordTest(unittest.TestCase):
    def test_there_and_back(self):
        for sheet in helper.all_sheets():
            for turn in range(4):
                cells = helper.shuffled(sheet, turn)
                for many in sorted({0, 1, len(cells) // 2, len(cells)}):
                    record = [(cell, helper.ANSWERS[(at * turn + turn) % 3]) for at, cell in enumerate(cells[:many])]
                    text = record_text(record)
                    self.assertEqual(text, told_record_text(record))
                    self.assertEqual(read_record(sheet, text), record)
                    self.assertEqual(repr(read_record(sheet, text)), repr(record))

    def test_written_out(self):
        record = [((4, 2), "hit"), ((0, 0), "water"), ((3, 2), "sunk")]
        self.assertEqual(record_text(record), "c5=hit a1=water c4=sunk")
        self.assertEqual(read_record((5, 3), "c5=hit a1=water c4=sunk"), record)
        self.assertEqual(record_text([]), "")
        self.assertEqual(read_record((1, 1), ""), [])
        self.assertEqual(read_record((1, 1), "a1=sunk"), [((0, 0), "sunk")])

    def reads(self, sheet, text):
        record = told_record(sheet, text)
        if record is None:
            helper.refused(self, NoText, None, read_record, sheet, text)
        else:
            self.assertEqual(read_record(sheet, text), record, text)

    def test_changed_texts(self):
        for sheet, text in [((5, 3), "c5=hit a1=water c4=sunk"), ((8, 8), "h8=sunk a8=hit h1=water"),
                            ((1, 1), "a1=hit"),
                            ((2, 2), "a1=water b1=water a2=hit b2=hit"), ((3, 3), "")]:
            for other in changed(text, SIGNS + "cds"):
                self.reads(sheet, other)

    def test_words_that_are_none(self):
        words = [" ", "a1", "a1=", "=hit", "=", "a1hit", "a1 hit", "a1=hot", "a1=Hit", "a1=HIT", "A1=hit", "1a=hit",
                 "a1==hit", "a1=hit=", "a1=hit=hit", "a1:hit", "a1= hit", "a1 =hit", "a01=hit", "a+1=hit", "a1.=hit",
                 "a0=hit",
                 "a-1=hit", "a9=hit", "i1=hit", "a10=hit", "a11=hit", "aa1=hit", "a=hit", "1=hit", "c1=hit", "a3=hit",
                 "none",
                 "ok", "a1=water,b1=hit", "a1=hit\n", "\na1=hit", "a1=hit\nb1=hit", "a1=hit;", "(0, 0)=hit", "a1=none"]
        for word in words:
            for text in [word, "b2=water " + word, word + " b2=water"]:
                helper.refused(self, NoText, None, read_record, (2, 2), text)
        for text in ["a1=hit ", " a1=hit", "a1=hit  b1=hit", "  ", "a1=hit b1"]:
            helper.refused(self, NoText, None, read_record, (2, 2), text)

    def test_cells_off_the_sheet(self):
        for sheet in [(1, 1), (2, 5), (8, 8), (4, 4), (1, 8), (8, 1)]:
            for cell in helper.grid((10, 10)):
                self.reads(sheet, told_record_text([(cell, "water")]))

    def test_a_cell_twice(self):
        for one, other in itertools.product(helper.ANSWERS, repeat=2):
            helper.refused(self, NoText, None, read_record, (2, 2), f"b2={one} b2={other}")
            helper.refused(self, NoText, None, read_record, (2, 2), f"b2={one} a1=hit b2={other}")
        self.assertEqual(len(read_record((2, 2), "b2=hit a1=hit b1=hit")), 3)

    def test_things_that_are_no_texts(self):
        for thing in NO_TEXTS + [["a1=hit"], ("a1=hit",), [((0, 0), "hit")], [[]], list("a1=hit")]:
            helper.refused(self, NoText, None, read_record, (2, 2), thing)
        for thing in helper.ODD_THINGS:
            if thing != "":
                helper.refused(self, NoText, None, read_record, (2, 2), thing)

    def test_records_that_no_hiding_fits(self):
        for text in ["a1=sunk b1=sunk a2=sunk b2=sunk", "a1=hit b1=hit a2=hit b2=hit"]:
            self.assertEqual(len(read_record((2, 2), text)), 4)


class OwnTest(unittest.TestCase):
    def test_by_name_and_unchanged(self):
        record = [((0, 2), "hit"), ((0, 0), "water")]
        helper.check_call(self, cell_text, "cell", [(4, 2)])
        helper.check_call(self, drawing, "sheet hiding", [(1, 4), ((0, 1, "along", 2),)])
        helper.check_call(self, record_text, "record", [record])
        helper.check_call(self, read_drawing, "sheet fleet rule text", [*LINE, ".AA."])
        helper.check_call(self, read_record, "sheet text", [(1, 4), "c1=hit a1=water"])
        helper.check_call(self, read_record, "sheet text", [(1, 4), ""])


if __name__ == "__main__":
    unittest.main()
