"""What seekers and answerers share: shots with their answers, and the hidings that are left behind them."""

from fleethide.errors import NothingLeft
from fleethide.hidings import one_at
from fleethide.records import lots_in, refuse_shot, some_fitting


class Search:
    """The hidings by a sheet, a fleet and a rule that fit the shots answered so far."""

    def __init__(self, sheet, fleet, rule="sides"):
        self.sheet = sheet
        self.fleet = fleet
        self.rule = rule
        self.shots = []
        # One list of hidings for each count of shots, so that taking one back needs no new search.
        self.layers = [some_fitting(sheet, fleet, rule, [])]

    def __len__(self):
        return len(self.layers[-1])

    def lots_at(self, cell):
        """Part the hidings left by what each would answer, were the cell shot next."""
        refuse_shot(self.sheet, self.shots, cell)
        return lots_in(self.layers[-1], self.shots, cell)

    def note(self, cell, answer, found):
        """Keep the shot, its answer, and the hidings found that are left behind it."""
        self.shots.append((cell, answer))
        self.layers.append(found)

    def back(self):
        """Take back the last shot."""
        if not self.shots:
            raise NothingLeft("there is no shot to take back")
        self.shots.pop()
        self.layers.pop()

    def record(self):
        """List the shots that are not taken back, with their answers."""
        return list(self.shots)

    def left(self):
        """Count the hidings that fit."""
        return len(self.layers[-1])

    def fitting_at(self, number):
        """Tell the hiding that has the number among those that fit."""
        return one_at(self.layers[-1], number)
