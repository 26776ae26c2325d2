"""A row of desks, by which the last comings alone are told."""

from drawerdesk.desks import Desk, check_drawers, is_number
from drawerdesk.errors import NoPiece
from drawerdesk.pours import poured


def check_piece(thing, most):
    """Refuse what is no number from 1 to most, of comings in a piece or of pieces."""
    if not is_number(thing, most):
        raise NoPiece("a piece is from 1 to 1000 comings, and pieces are from 1 to 50")


class Lately:
    """Desks in a row, each with a piece of the comings; the eldest pieces go."""

    def __init__(self, drawers, piece, pieces):
        check_drawers(drawers)
        check_piece(piece, 1000)
        check_piece(pieces, 50)
        self._drawers = drawers
        self._piece = piece
        self._pieces = pieces
        self._full = []
        self._begun = Desk(drawers)
        self._comings = 0

    def come(self, name, weight=1):
        """Let a name come once, with its weight."""
        # The desk ahead of the count: what it refuses counts for nothing.
        self._begun.come(name, weight)
        self._comings += 1
        if self._comings == self._piece:
            self._end_piece()

    def _end_piece(self):
        """Put the desk that has become full behind the others, and begin a new one."""
        self._full.append(self._begun)
        if len(self._full) > self._pieces:
            self._full.pop(0)
        self._begun = Desk(self._drawers)
        self._comings = 0

    def told(self):
        """A new desk that stands for the last comings, of the pieces that are kept."""
        # Poured to an empty desk even the only piece is a new desk, the asker's own.
        desk = Desk(self._drawers)
        for part in [*self._full, self._begun]:
            desk = poured(desk, part)
        return desk

    def reach(self):
        """How many of the last comings are kept."""
        return len(self._full) * self._piece + self._comings
