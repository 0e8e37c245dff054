"""Answerers: they are shot at, and hide nothing till they must."""

from fleethide.records import ANSWERS
from fleethide.searches import Search


class Answerer(Search):
    """One who answers shots so that most hidings are left."""

    def shoot(self, cell):
        """Answer a shot at the cell with what most hidings fit."""
        lots = self.lots_at(cell)
        answer = max(ANSWERS, key=lambda word: len(lots[word]))
        self.note(cell, answer, lots[answer])
        return answer

    def first(self):
        """Tell the first hiding that fits."""
        return self.layers[-1][0]

    def sunk(self):
        """Count the ships that are sunk."""
        return len([answer for cell, answer in self.shots if answer == "sunk"])
