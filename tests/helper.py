"""What the tests count for themselves, straight by the document's words, and what they hand in."""

import copy
import functools
import itertools

from fleethide.errors import HideError

RULES = ("free", "sides", "corners")
ANSWERS = ("water", "hit", "sunk")

# (sheet, fleet), each small enough to go through all tuples of ships.
SMALL = [
    ((1, 1), (1,)), ((1, 1), (2,)), ((1, 5), (2, 1)), ((5, 1), (2, 2)), ((2, 2), (2,)), ((2, 2), (2, 2)),
    ((2, 3), (1, 1)), ((2, 3), (3, 2, 1)), ((3, 2), (2, 1, 1)), ((3, 3), (3,)), ((3, 3), (2, 2)),
    ((3, 3), (3, 2, 1)), ((3, 3), (2, 2, 1, 1)), ((3, 3), (1, 1, 1, 1)), ((3, 4), (3, 2)), ((3, 4), (2, 2, 2)),
    ((4, 4), (4, 3)), ((4, 4), (3, 1)), ((4, 3), (4, 2, 2)), ((4, 4), (4, 4, 4)), ((4, 4), (4, 4, 4, 4)),
    ((2, 6), (5, 3, 1)), ((8, 1), (8,)), ((1, 8), (3, 3)), ((3, 4), (3, 2, 2)),
]
SMALL_GAMES = [(sheet, fleet, rule) for sheet, fleet in SMALL for rule in RULES]

JUST_1000 = ((2, 8), (6, 3, 2, 1), "free")
JUST_1001 = ((2, 7), (1, 1, 1, 1), "free")
JUST_20000 = ((6, 8), (7, 5, 3, 1), "sides")
NO_HIDINGS = [((1, 1), (2,), "free"), ((2, 2), (2, 2), "sides"), ((3, 3), (8, 1), "free"), ((2, 2), (1, 1), "corners")]

LONG = 10 ** 39
OFF_CELLS = [(-1, 0), (0, -1), (-1, -1), (8, 8), (9, 0), (0, 9), (LONG, 0), (0, -LONG), (LONG, LONG)]
ODD_NUMBERS = [-1, -2, -8, -LONG, LONG, 10 ** 40 - 1, 1 - 10 ** 40]
ODD_THINGS = ODD_NUMBERS + [
    0, 1, 2, 3, 7, 8, 9, True, False, None, "", " ", "1", "along", "down", "Along", "water", "hit", "sunk", "free",
    "a b\n~", "x" * 2000, (), [], (0,), [0], (0, 0), [0, 0], (1, 1), (True, 1), (None, None), ("along",),
    (0, 0, "along", 1), [0, 0, "along", 1], ((0, 0), "water"), [((0, 0), "hit")], ((),), [[[]]], (((1,),),), [[[[1]]]],
]


def all_sheets():
    return [(rows, columns) for rows in range(1, 9) for columns in range(1, 9)]


def all_fleets():
    tuples = [fleet for many in range(1, 5) for fleet in itertools.product(range(1, 9), repeat=many)]
    return [fleet for fleet in tuples if list(fleet) == sorted(fleet, reverse=True)]


def grid(sheet):
    return list(itertools.product(range(sheet[0]), range(sheet[1])))


def off_cells(sheet):
    """Tuples of two whole numbers that are no cells of the sheet, the nearest ones among them."""
    rows, columns = sheet
    return OFF_CELLS + [(rows, 0), (0, columns), (rows, columns), (-rows, 0), (0, -columns), (-1, columns - 1)]


def body(ship):
    row, column, way, length = ship
    step = {"along": (0, 1), "down": (1, 0)}[way]
    return {(row + step[0] * k, column + step[1] * k) for k in range(length)}


def all_ships(sheet, length):
    cells = set(grid(sheet))
    ships = [(row, column, way, length) for row, column in grid(sheet) for way in ("along", "down")]
    return [ship for ship in ships if body(ship) <= cells and not (length == 1 and ship[2] == "down")]


def lying(hiding):
    """The cells on which ships of the hiding lie."""
    return set().union(*[body(ship) for ship in hiding])


def beside(rule):
    straight = [(0, 1), (1, 0), (0, -1), (-1, 0)]
    corners = [(1, 1), (1, -1), (-1, 1), (-1, -1)]
    return [(0, 0)] + {"free": [], "sides": straight, "corners": straight + corners}[rule]


def kept(rule, one, other):
    near = {(row + down, column + right) for row, column in body(one) for down, right in beside(rule)}
    return not near & body(other)


@functools.lru_cache(maxsize=None)
def told_in_order(sheet, fleet, rule):
    tuples = itertools.product(*[all_ships(sheet, length) for length in fleet])
    return tuple(sorted(ships for ships in tuples if is_told(rule, ships)))


def told_hidings(sheet, fleet, rule):
    """All hidings in order, by going through all tuples of ships."""
    return list(told_in_order(sheet, fleet, rule))


def is_told(rule, ships):
    for one, other in zip(ships, ships[1:]):
        if one[3] == other[3] and not one < other:
            return False
    return all(kept(rule, one, other) for one, other in itertools.combinations(ships, 2))


def told_answers(hiding, cells):
    answers = []
    for many, cell in enumerate(cells, start=1):
        shot = set(cells[:many])
        bodies = [body(ship) for ship in hiding if cell in body(ship)]
        answers.append("water" if not bodies else "sunk" if bodies[0] <= shot else "hit")
    return answers


def told_fitting(sheet, fleet, rule, record):
    cells = [cell for cell, answer in record]
    answers = [answer for cell, answer in record]
    return [hiding for hiding in told_hidings(sheet, fleet, rule) if told_answers(hiding, cells) == answers]


def told_chances(sheet, found):
    rows = [[(row, column) for column in range(sheet[1])] for row in range(sheet[0])]
    bodies = [lying(hiding) for hiding in found]
    return [[len([1 for cells in bodies if cell in cells]) for cell in row] for row in rows]


def told_unshot(sheet, record):
    shot = [cell for cell, answer in record]
    return [cell for cell in grid(sheet) if cell not in shot]


def told_sure(sheet, found, record):
    table = told_chances(sheet, found)
    left = told_unshot(sheet, record)
    water = [cell for cell in left if table[cell[0]][cell[1]] == 0]
    return water, [cell for cell in left if table[cell[0]][cell[1]] == len(found)]


def told_parts(found, record, cell):
    cells = [shot for shot, answer in record] + [cell]
    answers = [told_answers(hiding, cells)[-1] for hiding in found]
    return tuple(answers.count(answer) for answer in ANSWERS)


def told_best(sheet, found, record):
    best = None
    for cell in told_unshot(sheet, record):
        parts = told_parts(found, record, cell)
        if best is None or max(parts) < max(best[1]):
            best = (cell, parts)
    return best


def mixed(things, turn):
    """All the things in an order that hangs on the turn."""
    left = list(things)
    found = []
    at = turn
    while left:
        at = (at * 5 + turn + 3) % len(left)
        found.append(left.pop(at))
    return found


def shuffled(sheet, turn):
    """All cells of the sheet in an order that hangs on the turn."""
    return mixed(grid(sheet), turn)


def records_for(sheet, fleet, rule):
    """Records of a game: the empty one, some of all lengths that fit, and some that need not."""
    found = told_hidings(sheet, fleet, rule)
    size = sheet[0] * sheet[1]
    records = [[]]
    for turn in range(6):
        cells = shuffled(sheet, turn)[:max(1, size * turn // 5)]
        if found:
            hiding = found[(turn * 37) % len(found)]
            records.append(list(zip(cells, told_answers(hiding, cells))))
            records.append([(cell, ANSWERS[(at + turn) % 3]) if at == turn else (cell, answer)
                            for at, (cell, answer) in enumerate(records[-1])])
        records.append([(cell, ANSWERS[(at * turn + turn) % 3]) for at, cell in enumerate(cells[:turn])])
    return records


def mutants(thing, fillers=ODD_THINGS):
    """The thing, and what comes of it by a part changed, left out or added, or by a list for a tuple."""
    yield thing
    yield from fillers
    if not isinstance(thing, (list, tuple)):
        return
    kind = type(thing)
    other = list if kind is tuple else tuple
    parts = list(thing)
    yield other(parts)
    yield kind(parts[::-1])
    yield kind([thing])
    yield kind(parts + parts)
    for filler in fillers:
        yield kind(parts + [filler])
        yield kind([filler] + parts)
    for at, part in enumerate(parts):
        yield kind(parts[:at] + parts[at + 1:])
        yield kind(parts[:at] + [part] + parts[at:])
        for changed in mutants(part, fillers):
            yield kind(parts[:at] + [changed] + parts[at + 1:])


def refused(test, kind, cell, function, *values):
    """See that the question is refused with just this kind of refusal, and this cell."""
    with test.assertRaises(HideError) as held:
        function(*values)
    test.assertIs(type(held.exception), kind, values)
    test.assertEqual(repr(held.exception.cell), repr(cell))


def spoil(told):
    """Change all lists in what was told, lists within lists too."""
    if isinstance(told, (list, tuple)):
        for part in told:
            spoil(part)
    if isinstance(told, list):
        told.append("spoilt")
        told.reverse()


def check_call(test, function, names, values):
    """Ask by places, and by names in two orders; see that nothing handed in is changed, and lists told are new."""
    handed = copy.deepcopy(values)
    first = function(*handed)
    test.assertEqual(repr(handed), repr(values))
    told = copy.deepcopy(first)
    spoil(first)
    test.assertEqual(repr(handed), repr(values))
    second = function(**dict(zip(names.split(), handed)))
    test.assertEqual(second, told)
    spoil(handed)
    test.assertEqual(second, told)
    named = dict(zip(names.split(), copy.deepcopy(values)))
    test.assertEqual(function(**{name: named[name] for name in reversed(names.split())}), told)
    test.assertEqual(function(*copy.deepcopy(values)), told)
