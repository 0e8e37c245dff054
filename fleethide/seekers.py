"""Seekers: they are told shots and answers, and tell what is left."""

from fleethide.errors import NoHiding
from fleethide.records import best_in, sure_in
from fleethide.searches import Search


class Seeker(Search):
    """One who shoots, and is told each answer."""

    def __eq__(self, other):
        if not isinstance(other, Seeker):
            return False
        if (self.sheet, self.fleet, self.rule) != (other.sheet, other.fleet, other.rule):
            return False
        return self.shots == other.shots

    def tell(self, cell, answer):
        """Take in what was answered to a shot at the cell."""
        found = self.lots_at(cell).get(answer, [])
        if not found:
            raise NoHiding("no hiding would fit")
        self.note(cell, answer, found)

    def sure(self):
        """List the unshot cells that are water, and those that have a ship, in each hiding that fits."""
        return sure_in(self.sheet, self.layers[-1], self.shots)

    def best(self):
        """Tell the first cell whose greatest part is least, and its parts."""
        return best_in(self.sheet, self.layers[-1], self.shots)
