"""Looks: plans by which each of some hidings is known, and those of the fewest looks."""

from fleethide.errors import TooMany
from fleethide.sheets import lying_cells

MOST_PLANNED = 10


def plan_holds(hidings, plan):
    """Tell whether the plan, gone through by the looks of each hiding, ends at this one's number."""
    return all([number_by(plan, hiding) == at for at, hiding in enumerate(hidings)])


def number_by(plan, hiding):
    """Go through the plan by looks at the hiding, and tell the number at which it ends."""
    lying = lying_cells(hiding)
    while plan[0] == "look":
        word, cell, without, within = plan
        plan = within if cell in lying else without
    return plan[1]


def depth_of(plan):
    """Count the looks on the longest way through the plan."""
    # Level by level and not by calls within calls, since a plan that is handed in may be of any depth.
    depth = 0
    looks = looks_among([plan])
    while looks:
        depth += 1
        looks = looks_among([part for word, cell, *parts in looks for part in parts])
    return depth


def looks_among(plans):
    """List those of the plans that begin with a look."""
    return [plan for plan in plans if plan[0] == "look"]


def least_plan(hidings):
    """Tell the first two hidings that no look parts, or else a plan that holds, of the least depth."""
    if not 1 <= len(hidings) <= MOST_PLANNED:
        raise TooMany("a plan is told of one to ten hidings")
    bodies = [lying_cells(hiding) for hiding in hidings]
    alike = alike_pairs(bodies)
    if alike:
        return ("alike",) + alike[0]
    cells = cells_by_lot(bodies)
    depths = least_depths(cells, len(bodies))
    return ("plan", depths[-1], plan_for(len(depths) - 1, cells, depths))


def alike_pairs(bodies):
    """List the pairs of numbers, rising, whose bodies are the same."""
    pairs = [(one, other) for other in range(len(bodies)) for one in range(other)]
    return sorted([(one, other) for one, other in pairs if bodies[one] == bodies[other]])


# From here on a lot of hidings is a whole number that has the bit 1 << n for each
# number n of them, so that a list can be asked by it and a look parts it by one `&`.


def cells_by_lot(bodies):
    """Tell for each lot that has ships on a cell, where all others have none, such a cell."""
    cells = {}
    for cell in sorted({part for body in bodies for part in body}):
        cells.setdefault(sum([1 << number for number, body in enumerate(bodies) if cell in body]), cell)
    return cells


def least_depths(cells, many):
    """List for each lot of so many hidings the least depth of a plan for it."""
    depths = [0] * (1 << many)
    for lot in range(1 << many):
        # A lot of one hiding, or of none, has no bit left without its lowest one, and needs no look.
        if lot & (lot - 1):
            depths[lot] = 1 + depth_behind(best_shown(lot, cells, depths), lot, depths)
    return depths


def best_shown(lot, cells, depths):
    """Tell what is shown by the look that parts the lot and leaves the fewest looks behind it."""
    parting = [shown for shown in cells if 0 < lot & shown < lot]
    return min(parting, key=lambda shown: depth_behind(shown, lot, depths))


def depth_behind(shown, lot, depths):
    """Tell how many looks the lot needs at most behind the one by which this is shown."""
    return max(depths[lot & shown], depths[lot - (lot & shown)])


def plan_for(lot, cells, depths):
    """Tell a plan of the least depth for the lot."""
    if depths[lot] == 0:
        return ("known", lot.bit_length() - 1)
    shown = best_shown(lot, cells, depths)
    without = plan_for(lot - (lot & shown), cells, depths)
    return ("look", cells[shown], without, plan_for(lot & shown, cells, depths))
