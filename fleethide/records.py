"""Records of shots and their answers, and what the hidings that fit them tell."""

from fleethide.errors import NoCell, NoHiding, NoShot
from fleethide.hidings import hidings_among, if_not_too_many
from fleethide.sheets import all_cells, are_marks, cells_of, is_cell, ships_of

ANSWERS = ("water", "hit", "sunk")


def is_record(sheet, thing):
    """Tell whether thing is a record of the sheet."""
    return are_marks(sheet, thing, ANSWERS)


def shot_cells(record):
    """List the cells of the record in their order."""
    return [cell for cell, answer in record]


def unshot_cells(sheet, record):
    """List the cells of the sheet that were not shot, rising."""
    shot = set(shot_cells(record))
    return [cell for cell in all_cells(sheet) if cell not in shot]


def answers_of(hiding, cells):
    """List what the hiding answers to the cells, shot one behind the other."""
    bodies = [cells_of(ship) for ship in hiding]
    return [answer_to(bodies, cell, cells[:at + 1]) for at, cell in enumerate(cells)]


def answer_to(bodies, cell, shot):
    """Tell what ships of these bodies answer to the cell, the last one of those shot by then."""
    for body in bodies:
        if cell in body:
            return "sunk" if all([part in shot for part in body]) else "hit"
    return "water"


def fits(hiding, record):
    """Tell whether the hiding fits the record."""
    return answers_of(hiding, shot_cells(record)) == [answer for cell, answer in record]


def ship_fits(ship, record):
    """Tell whether the ship, whatever lies elsewhere, answers the shots at its own cells as recorded."""
    body = cells_of(ship)
    return fits((ship,), [(cell, answer) for cell, answer in record if cell in body])


def all_fitting(sheet, fleet, rule, record):
    """List all hidings that fit the record, in order, however many."""
    struck = [cell for cell, answer in record if answer != "water"]
    choices = [[ship for ship in ships_of(sheet, length) if ship_fits(ship, record)] for length in fleet]
    strikes = {ship: len([cell for cell in cells_of(ship) if cell in struck]) for ships in choices for ship in ships}
    # No two ships share a cell, so each answers for its own cells alone; what is
    # left to ask is whether every cell that was struck has a ship.
    found = hidings_among(rule, choices)
    return [hiding for hiding in found if sum([strikes[ship] for ship in hiding]) == len(struck)]


def some_fitting(sheet, fleet, rule, record):
    """List all hidings that fit the record, and refuse where none does."""
    found = all_fitting(sheet, fleet, rule, record)
    if not found:
        raise NoHiding("no hiding fits the record")
    return found


def how_many_fit(sheet, fleet, rule, record):
    """Count the hidings that fit the record."""
    return len(all_fitting(sheet, fleet, rule, record))


def fitting(sheet, fleet, rule, record):
    """List the hidings that fit the record, in order."""
    return if_not_too_many(all_fitting(sheet, fleet, rule, record))


def ship_counts(found):
    """Count for each ship how many of the hidings found have it."""
    counts = {}
    for hiding in found:
        for ship in hiding:
            counts[ship] = counts.get(ship, 0) + 1
    return counts


def chances_in(sheet, found):
    """Count for each cell, row by row, in how many of the hidings found a ship lies there."""
    rows, columns = sheet
    table = [[0] * columns for row in range(rows)]
    for ship, many in ship_counts(found).items():
        for row, column in cells_of(ship):
            table[row][column] += many
    return table


def chances(sheet, fleet, rule, record):
    """Count for each cell, row by row, in how many hidings that fit a ship lies there."""
    return chances_in(sheet, some_fitting(sheet, fleet, rule, record))


def sure(sheet, fleet, rule, record):
    """List the unshot cells that are water, and those that have a ship, in each hiding that fits."""
    return sure_in(sheet, some_fitting(sheet, fleet, rule, record), record)


def sure_in(sheet, found, record):
    """List the unshot cells that are water, and those that have a ship, in each of the hidings found."""
    table = chances_in(sheet, found)
    left = unshot_cells(sheet, record)
    water = [(row, column) for row, column in left if table[row][column] == 0]
    ships = [(row, column) for row, column in left if table[row][column] == len(found)]
    return (water, ships)


def parts_in(sheet, found, record):
    """Tell for each unshot cell, rising, how many of the hidings found would answer water, hit and sunk."""
    left = unshot_cells(sheet, record)
    hits = {cell: 0 for cell in left}
    sinks = {cell: 0 for cell in left}
    for ship, many in ship_counts(found).items():
        whole = [cell for cell in cells_of(ship) if cell in hits]
        answered = sinks if len(whole) == 1 else hits
        for cell in whole:
            answered[cell] += many
    return {cell: (len(found) - hits[cell] - sinks[cell], hits[cell], sinks[cell]) for cell in left}


def lots_in(found, record, cell):
    """Part the hidings found by what each would answer, were the cell shot behind those of the record."""
    shot = shot_cells(record) + [cell]
    answers = {ship: answer_to([cells_of(ship)], cell, shot) for ship in ship_counts(found)}
    lots = {answer: [] for answer in ANSWERS}
    for hiding in found:
        # No two ships share a cell, so at most one of them answers anything but water.
        struck = [answers[ship] for ship in hiding if answers[ship] != "water"]
        lots[struck[0] if struck else "water"].append(hiding)
    return lots


def parts_of(sheet, fleet, rule, record, cell):
    """Tell how many of the hidings that fit would answer water, hit and sunk, were the cell shot next."""
    found = some_fitting(sheet, fleet, rule, record)
    refuse_shot(sheet, record, cell)
    return parts_in(sheet, found, record)[cell]


def refuse_shot(sheet, record, cell):
    """Refuse a cell that is off the sheet or was shot before."""
    if not is_cell(sheet, cell):
        raise NoCell("the sheet has no such cell", cell)
    if cell in shot_cells(record):
        raise NoShot("the cell was shot before", cell)


def best_shot(sheet, fleet, rule, record):
    """Tell the first cell whose greatest part is least, and its parts."""
    return best_in(sheet, some_fitting(sheet, fleet, rule, record), record)


def best_in(sheet, found, record):
    """Tell the first cell whose greatest part of the hidings found is least, and its parts."""
    parts = parts_in(sheet, found, record)
    if not parts:
        raise NoShot("no cell is left to shoot at")
    best = min(list(parts), key=lambda cell: max(parts[cell]))
    return (best, parts[best])
