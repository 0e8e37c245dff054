"""Cells, hidings and records as texts, written and read back."""

from fleethide.errors import NoText
from fleethide.records import is_record
from fleethide.sheets import all_cells, cells_of, is_hiding

COLUMN_LETTERS = "abcdefghijklmnopqrstuvwxyz"
SHIP_LETTERS = "ABCDEFGHIJKLMNOPQRSTUVWXYZ"


def cell_text(cell):
    """Write the cell."""
    row, column = cell
    return f"{COLUMN_LETTERS[column]}{row + 1}"


def cells_by_text(sheet):
    """Tell for each text of a cell of the sheet which cell it is."""
    return {cell_text(cell): cell for cell in all_cells(sheet)}


def drawing(sheet, hiding):
    """Draw the hiding."""
    rows, columns = sheet
    letters = {cell: letter for letter, ship in zip(SHIP_LETTERS, hiding) for cell in cells_of(ship)}
    return "\n".join(["".join([letters.get((row, column), ".") for column in range(columns)]) for row in range(rows)])


def record_text(record):
    """Write the record."""
    return " ".join([f"{cell_text(cell)}={answer}" for cell, answer in record])


def read_drawing(sheet, fleet, rule, text):
    """Read the hiding that is drawn so."""
    if not isinstance(text, str):
        raise NoText("a drawing is a text")
    hiding = tuple([drawn_ship(text, letter, length) for letter, length in zip(SHIP_LETTERS, fleet)])
    # The ships are guessed by a cell or two of each; drawn again they show whether all signs are right.
    if not is_hiding(sheet, fleet, rule, hiding) or drawing(sheet, hiding) != text:
        raise NoText("no hiding is drawn so")
    return hiding


def drawn_ship(text, letter, length):
    """Tell which ship of the length the letter may stand for, or None where it stands nowhere."""
    lines = text.split("\n")
    cells = [(row, column) for row, line in enumerate(lines) for column, sign in enumerate(line) if sign == letter]
    if not cells:
        return None
    row, column = cells[0]
    way = "down" if len(cells) > 1 and cells[1][0] > row else "along"
    return (row, column, way, length)


def read_record(sheet, text):
    """Read the record that is written so."""
    if not isinstance(text, str):
        raise NoText("a record is written as a text")
    cells = cells_by_text(sheet)
    words = text.split(" ") if text else []
    parts = [word.partition("=") for word in words]
    # What is no cell of the sheet becomes None here, and with it the whole is no record.
    record = [(cells.get(name), answer) for name, sign, answer in parts]
    if not is_record(sheet, record):
        raise NoText("no record is written so")
    return record
