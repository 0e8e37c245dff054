"""The refusals, one class for each."""


class HideError(ValueError):
    """Any refusal. Its cell is the one that was refused, or None where it was no cell."""

    def __init__(self, words="", cell=None):
        ValueError.__init__(self, words)
        self.cell = cell


class NoHiding(HideError):
    """There is no such hiding, or none that fits."""


class NoNumber(HideError):
    """No hiding has this number."""


class TooMany(HideError):
    """There are more than are told at once."""


class NoCell(HideError):
    """The sheet has no such cell."""


class NoShot(HideError):
    """The cell was shot before, or none is left to shoot at."""


class NothingLeft(HideError):
    """There is nothing to take back."""


class NoCounts(HideError):
    """These are no counts, or no marks, of the sheet."""


class Over(HideError):
    """The match has ended."""


class NoText(HideError):
    """Nothing is written so."""


class NoRow(HideError):
    """The desk knows no such row."""
