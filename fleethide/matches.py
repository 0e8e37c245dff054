"""Matches: two sides shoot at one another's hiding, shot by shot, and back."""

from fleethide.errors import NoHiding, NothingLeft, Over
from fleethide.records import answers_of, refuse_shot, shot_cells
from fleethide.sheets import cells_of, is_hiding


class Match:
    """Two hidings, of sides 0 and 1, and the shots at them so far."""

    def __init__(self, sheet, fleet, rule, first, second):
        for hiding in (first, second):
            if not is_hiding(sheet, fleet, rule, hiding):
                raise NoHiding("this is no hiding of the fleet")
        self.sheet = sheet
        self.sides = (first, second)
        # Tuples (side, cell, answer) of both sides in one list, since the last shot of all is taken back.
        self.shots = []

    def shoot(self, cell):
        """Let the side whose turn it is shoot at the cell, and tell the answer."""
        if self.winner() is not None:
            raise Over("the match has ended")
        side = self.turn()
        record = self.record(side)
        refuse_shot(self.sheet, record, cell)
        answer = answers_of(self.sides[1 - side], shot_cells(record) + [cell])[-1]
        self.shots.append((side, cell, answer))
        return answer

    def back(self):
        """Take back the last shot."""
        if not self.shots:
            raise NothingLeft("there is no shot to take back")
        self.shots.pop()

    def turn(self):
        """Tell which side shoots next, or has won."""
        if not self.shots:
            return 0
        side, cell, answer = self.shots[-1]
        return 1 - side if answer == "water" else side

    def winner(self):
        """Tell which side has sunk all ships of the other one, or None."""
        winners = [side for side in (0, 1) if not self.afloat(1 - side)]
        return winners[0] if winners else None

    def record(self, side):
        """List the shots of the side with their answers."""
        return [(cell, answer) for shooter, cell, answer in self.shots if shooter == side]

    def afloat(self, side):
        """List the lengths of the side's own ships that are not sunk."""
        shot = shot_cells(self.record(1 - side))
        return [ship[3] for ship in self.sides[side] if not all([cell in shot for cell in cells_of(ship)])]
