"""Nets: the fewest cells that meet every ship of a length, and as many ships that lie apart."""

from fleethide.sheets import all_cells, cells_of, is_cell


def net_of(rows, columns, length):
    """Tell a net for the length, and as many ships of the length that lie apart."""
    return (net_cells(rows, columns, length), sorted(apart_ships(rows, columns, length)))


def net_cells(rows, columns, length):
    """List the cells of a least net, rising."""
    # Slanting lines of cells meet ships of both ways; where ships lie one way alone
    # lines straight across it do, and a slanting one might take cells too many.
    down = 1 if length <= rows else 0
    along = 1 if length <= columns else 0
    cells = all_cells((rows, columns))
    return [(row, column) for row, column in cells if (row * down + column * along) % length == length - 1]


def apart_ships(rows, columns, length):
    """List as many ships that lie apart as there can be."""
    if needs_ring(rows, columns, length):
        return ring_ships(rows, columns, length)
    wide = columns - columns % length
    along = lot_of((0, 0), (rows, wide), "along", length)
    return along + lot_of((0, wide), (rows, columns - wide), "down", length)


def needs_ring(rows, columns, length):
    """Tell whether ships lie both ways, and straight lots of them would leave too great a hole."""
    return length <= min(rows, columns) and rows % length + columns % length > length


def ring_ships(rows, columns, length):
    """List ships that lie apart, four lots of them turned round a hole in the last corner of the sheet."""
    high, wide = rows % length, columns % length
    top, left = rows - length - high, columns - length - wide
    ships = lot_of((0, 0), (top, columns), "down", length)
    ships += lot_of((top, 0), (length + high, left), "along", length)
    ships += lot_of((top, left), (high, length), "along", length)
    ships += lot_of((top, left + length), (length, wide), "down", length)
    ships += lot_of((top + length, left + wide), (high, length), "along", length)
    ships += lot_of((top + high, left), (length, wide), "down", length)
    return ships


def lot_of(corner, size, way, length):
    """List the ships by the way that fill a block of the size, from the corner on, as far as they go into it."""
    top, left = corner
    high, wide = size
    if way == "along":
        places = [(row, column) for row in range(high) for column in range(0, wide - length + 1, length)]
    else:
        places = [(row, column) for row in range(0, high - length + 1, length) for column in range(wide)]
    return [(top + row, left + column, way, length) for row, column in places]


def is_net(rows, columns, length, cells):
    """Tell whether the cells are a net for the length."""
    if not all([is_cell((rows, columns), cell) for cell in cells]):
        return False
    taken = set(cells)
    if len(taken) < len(cells):
        return False
    return all([any([cell in taken for cell in body]) for body in bodies_of(rows, columns, length)])


def bodies_of(rows, columns, length):
    """List the cells of each ship of the length."""
    along = [(row, column, "along", length) for row in range(rows) for column in range(columns - length + 1)]
    down = [(row, column, "down", length) for row in range(rows - length + 1) for column in range(columns)]
    return [cells_of(ship) for ship in along + down]


def lie_apart(ships):
    """Tell whether no two of the ships have a cell in common."""
    cells = [cell for ship in ships for cell in cells_of(ship)]
    return len(set(cells)) == len(cells)


def least_net(rows, columns, length):
    """Count the cells of a least net."""
    # A side shorter than the length is all rest, so this holds for ships of one way, or of none, too.
    high, wide = rows % length, columns % length
    if needs_ring(rows, columns, length):
        high, wide = length - high, length - wide
    return (rows * columns - high * wide) // length
