"""Counts of rows and columns, and the hidings that have them."""

from fleethide.errors import NoCounts
from fleethide.hidings import all_hidings, if_not_too_many
from fleethide.sheets import are_marks, is_tuple_of, is_whole, lying_cells

MARKS = ("water", "ship")
STANDINGS = ("none", "one", "more")


def counts_of(sheet, hiding):
    """Count the cells of each row, and of each column, on which ships lie."""
    rows, columns = [0] * sheet[0], [0] * sheet[1]
    for row, column in lying_cells(hiding):
        rows[row] += 1
        columns[column] += 1
    return (tuple(rows), tuple(columns))


def with_counts(sheet, fleet, rule, rows, columns, marks):
    """List the hidings, in order, that have the counts of rows and columns and the marks."""
    return if_not_too_many(all_with(sheet, fleet, rule, rows, columns, marks))


def settled(sheet, fleet, rule, rows, columns, marks):
    """Tell whether none, one or more hidings have the counts and the marks, and the first two of them."""
    found = all_with(sheet, fleet, rule, rows, columns, marks)
    return (STANDINGS[min(len(found), 2)],) + tuple(found[:2])


def all_with(sheet, fleet, rule, rows, columns, marks):
    """List all hidings that have the counts and the marks, in order, however many."""
    if not are_counts(rows, sheet[0]) or not are_counts(columns, sheet[1]):
        raise NoCounts("these are no counts of the sheet")
    if not are_marks(sheet, marks, MARKS):
        raise NoCounts("these are no marks of the sheet")
    found = [hiding for hiding in all_hidings(sheet, fleet, rule) if has_marks(hiding, marks)]
    return [hiding for hiding in found if has_counts(sheet, hiding, rows, columns)]


def are_counts(thing, many):
    """Tell whether thing may be wanted of so many rows or columns."""
    return is_tuple_of(thing, many) and all([count is None or is_whole(count) for count in thing])


def has_marks(hiding, marks):
    """Tell whether ships of the hiding lie at the cells marked so, and at none that is marked water."""
    lying = lying_cells(hiding)
    return all([(cell in lying) == (word == "ship") for cell, word in marks])


def has_counts(sheet, hiding, rows, columns):
    """Tell whether the hiding has each count that is wanted."""
    have = counts_of(sheet, hiding)
    pairs = list(zip(have[0], rows)) + list(zip(have[1], columns))
    return all([wanted is None or wanted == count for count, wanted in pairs])
