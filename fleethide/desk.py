"""The desk: a seeker behind rows of words, each of them answered with a text."""

from fleethide.errors import NoRow
from fleethide.nets import least_net
from fleethide.records import ANSWERS
from fleethide.seekers import Seeker
from fleethide.sheets import GREATEST, RULES, is_fleet
from fleethide.texts import cell_text, cells_by_text, drawing, record_text

NOTHING = "none"
DONE = "ok"
FIGURES = "0123456789"
MOST_FIGURES = 4


def read_size(word):
    """Read a number of one figure from 1 to 8."""
    if len(word) != 1 or word not in FIGURES or not 1 <= int(word) <= GREATEST:
        raise NoRow("this is no figure from 1 to 8")
    return int(word)


def read_cell(word):
    """Read a cell of any sheet."""
    # The greatest sheet has the cells of all others.
    cells = cells_by_text((GREATEST, GREATEST))
    if word not in cells:
        raise NoRow("no cell is written so")
    return cells[word]


def read_place(word):
    """Read a number of one to four figures, the first of several no 0."""
    if not 1 <= len(word) <= MOST_FIGURES or not all([sign in FIGURES for sign in word]):
        raise NoRow("these are no one to four figures")
    if str(int(word)) != word:
        raise NoRow("a number of several figures begins with no 0")
    return int(word)


def read_answer(word):
    """Read an answer."""
    if word not in ANSWERS:
        raise NoRow("there is no such answer")
    return word


def listed(cells):
    """Write the cells with commas between."""
    return ",".join([cell_text(cell) for cell in cells]) or NOTHING


def numbered(numbers):
    """Write the numbers with blanks between."""
    return " ".join([str(number) for number in numbers])


def do_new(desk, words):
    """Begin anew with another seeker."""
    rows, columns, rule, *lengths = words
    sheet = (read_size(rows), read_size(columns))
    fleet = tuple([read_size(length) for length in lengths])
    if rule not in RULES or not is_fleet(fleet):
        raise NoRow("there is no such rule, or no such fleet")
    desk.seeker = Seeker(sheet, fleet, rule)
    return DONE


def do_tell(desk, words):
    """Tell the seeker a shot and its answer."""
    cell, answer = read_cell(words[0]), read_answer(words[1])
    desk.seeker.tell(cell, answer)
    return DONE


def do_back(desk, words):
    """Take back the last shot."""
    desk.seeker.back()
    return DONE


def do_left(desk, words):
    """Count the hidings that fit."""
    return str(desk.seeker.left())


def do_record(desk, words):
    """Write the record."""
    return record_text(desk.seeker.record()) or NOTHING


def do_sure(desk, words):
    """Write the cells that are surely water, and those that surely have a ship."""
    water, ships = desk.seeker.sure()
    return f"{listed(water)} / {listed(ships)}"


def do_best(desk, words):
    """Write the best shot and its parts."""
    cell, parts = desk.seeker.best()
    return f"{cell_text(cell)} {numbered(parts)}"


def do_parts(desk, words):
    """Write the parts of the cell."""
    lots = desk.seeker.lots_at(read_cell(words[0]))
    return numbered([len(lots[answer]) for answer in ANSWERS])


def do_draw(desk, words):
    """Draw the hiding of the place among those that fit, on one line."""
    hiding = desk.seeker.fitting_at(read_place(words[0]))
    return drawing(desk.seeker.sheet, hiding).replace("\n", " / ")


def do_net(desk, words):
    """Count the cells of a least net."""
    rows, columns, length = [read_size(word) for word in words]
    return str(least_net(rows, columns, length))


DEEDS = {
    "new": do_new, "tell": do_tell, "back": do_back, "left": do_left, "record": do_record,
    "sure": do_sure, "best": do_best, "parts": do_parts, "draw": do_draw, "net": do_net,
}
# How few, and how many, words stand behind the first one.
WORDS_BEHIND = {
    "new": (4, 7), "tell": (2, 2), "back": (0, 0), "left": (0, 0), "record": (0, 0),
    "sure": (0, 0), "best": (0, 0), "parts": (1, 1), "draw": (1, 1), "net": (3, 3),
}


class Desk:
    """One who is told rows, and answers them by its seeker."""

    def __init__(self):
        self.seeker = Seeker((4, 4), (2, 2), "sides")

    def say(self, row):
        """Answer the row."""
        if not isinstance(row, str):
            raise NoRow("a row is a text")
        first, *words = row.split(" ")
        if first not in DEEDS:
            raise NoRow("no row begins so")
        fewest, most = WORDS_BEHIND[first]
        if not fewest <= len(words) <= most:
            raise NoRow("the row has words too few or too many")
        deed = DEEDS[first]
        return deed(self, words)
