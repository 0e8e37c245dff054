"""Sheets, cells, ships, the rules that ships keep, fleets and hidings."""

WAYS = ("along", "down")
RULES = ("free", "sides", "corners")
GREATEST = 8
MOST_SHIPS = 4


def is_whole(thing):
    """Tell whether thing is a whole number; truths are none."""
    return isinstance(thing, int) and not isinstance(thing, bool)


def is_size(thing):
    """Tell whether thing may be the length of a ship or a side of a sheet."""
    return is_whole(thing) and 1 <= thing <= GREATEST


def is_tuple_of(thing, many):
    """Tell whether thing is a tuple of so many parts."""
    return isinstance(thing, tuple) and len(thing) == many


def is_sheet(thing):
    """Tell whether thing is a sheet."""
    return is_tuple_of(thing, 2) and is_size(thing[0]) and is_size(thing[1])


def is_cell(sheet, thing):
    """Tell whether thing is a cell of the sheet."""
    if not is_tuple_of(thing, 2):
        return False
    row, column = thing
    return is_whole(row) and is_whole(column) and 0 <= row < sheet[0] and 0 <= column < sheet[1]


def are_marks(sheet, thing, words):
    """Tell whether thing is a list of tuples, each of a cell of the sheet and one of the words, no two cells alike."""
    if not isinstance(thing, list):
        return False
    if not all([is_tuple_of(part, 2) and is_cell(sheet, part[0]) and part[1] in words for part in thing]):
        return False
    return len({cell for cell, word in thing}) == len(thing)


def all_cells(sheet):
    """List the cells of the sheet, rising."""
    rows, columns = sheet
    return [(row, column) for row in range(rows) for column in range(columns)]


def is_ship(sheet, thing):
    """Tell whether thing is a ship on the sheet."""
    if not is_tuple_of(thing, 4):
        return False
    row, column, way, length = thing
    if way not in WAYS or not is_size(length) or not is_cell(sheet, (row, column)):
        return False
    if way == "down":
        return length > 1 and row + length <= sheet[0]
    return column + length <= sheet[1]


def ships_of(sheet, length):
    """List the ships of the length on the sheet, rising."""
    ships = [(row, column, way, length) for row, column in all_cells(sheet) for way in WAYS]
    return [ship for ship in ships if is_ship(sheet, ship)]


def cells_of(ship):
    """List the cells of the ship, rising."""
    row, column, way, length = ship
    if way == "down":
        return [(row + step, column) for step in range(length)]
    return [(row, column + step) for step in range(length)]


def lying_cells(hiding):
    """List the cells on which ships of the hiding lie, rising."""
    return sorted([cell for ship in hiding for cell in cells_of(ship)])


def rows_between(one, other):
    """Count the steps from the rows of one ship to those of the other, 0 where they share a row."""
    one_last = one[0] + one[3] - 1 if one[2] == "down" else one[0]
    other_last = other[0] + other[3] - 1 if other[2] == "down" else other[0]
    return max(other[0] - one_last, one[0] - other_last, 0)


def columns_between(one, other):
    """Count the steps from the columns of one ship to those of the other, 0 where they share a column."""
    one_last = one[1] + one[3] - 1 if one[2] == "along" else one[1]
    other_last = other[1] + other[3] - 1 if other[2] == "along" else other[1]
    return max(other[1] - one_last, one[1] - other_last, 0)


def keep(rule, one, other):
    """Tell whether the two ships keep the rule."""
    # A ship fills all cells where its rows and columns cross, so the nearest two
    # cells of two ships are just as far apart as their rows and their columns are.
    rows = rows_between(one, other)
    columns = columns_between(one, other)
    if rule == "free":
        return rows + columns > 0
    if rule == "sides":
        return rows + columns > 1
    return max(rows, columns) > 1


def may_follow(rule, ship, other):
    """Tell whether other may stand behind ship in a hiding by the rule."""
    if other[3] == ship[3] and other <= ship:
        return False
    return keep(rule, ship, other)


def is_fleet(thing):
    """Tell whether thing is a fleet."""
    if not isinstance(thing, tuple) or not 1 <= len(thing) <= MOST_SHIPS:
        return False
    if not all([is_size(length) for length in thing]):
        return False
    return all([ahead >= behind for ahead, behind in zip(thing, thing[1:])])


def is_hiding(sheet, fleet, rule, thing):
    """Tell whether thing is a hiding by the sheet, the fleet and the rule."""
    if not is_tuple_of(thing, len(fleet)):
        return False
    if not all([is_ship(sheet, ship) for ship in thing]):
        return False
    if [ship[3] for ship in thing] != list(fleet):
        return False
    return all([may_follow(rule, ship, other) for at, ship in enumerate(thing) for other in thing[at + 1:]])
