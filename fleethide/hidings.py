"""All hidings by a sheet, a fleet and a rule, and their numbers."""

from fleethide.errors import NoHiding, NoNumber, TooMany
from fleethide.sheets import is_hiding, is_whole, may_follow, ships_of

MOST_TOLD = 1000


def hidings_among(rule, choices):
    """List the hidings, in order, that take one ship out of each list of choices, each list rising."""
    first, *rest = choices
    if not rest:
        return [(ship,) for ship in first]
    found = []
    for ship in first:
        left = [[other for other in others if may_follow(rule, ship, other)] for others in rest]
        found += [(ship,) + others for others in hidings_among(rule, left)]
    return found


def all_hidings(sheet, fleet, rule):
    """List all hidings, in order, however many."""
    return hidings_among(rule, [ships_of(sheet, length) for length in fleet])


def if_not_too_many(found):
    """Give back the list that was found, or refuse to tell so many."""
    if len(found) > MOST_TOLD:
        raise TooMany("there are more hidings than are told at once")
    return found


def one_at(found, number):
    """Give back the hiding that has the number in the list that was found, or refuse the number."""
    if not is_whole(number) or not 0 <= number < len(found):
        raise NoNumber("no hiding has this number")
    return found[number]


def how_many(sheet, fleet, rule):
    """Count the hidings."""
    return len(all_hidings(sheet, fleet, rule))


def hidings(sheet, fleet, rule):
    """List all hidings, in order."""
    return if_not_too_many(all_hidings(sheet, fleet, rule))


def hiding_at(sheet, fleet, rule, number):
    """Tell the hiding that has the number."""
    return one_at(all_hidings(sheet, fleet, rule), number)


def number_of(sheet, fleet, rule, thing):
    """Tell the number of the hiding."""
    if not is_hiding(sheet, fleet, rule, thing):
        raise NoHiding("this is no hiding of the fleet")
    return all_hidings(sheet, fleet, rule).index(thing)
