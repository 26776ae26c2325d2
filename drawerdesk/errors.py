"""What the program refuses."""


class DrawerError(ValueError):
    """Any refusal."""


class NoName(DrawerError):
    """What was handed in as a name is none."""


class NoWeight(DrawerError):
    """What was handed in as a weight is none."""


class NoDesk(DrawerError):
    """What was handed in as a number of drawers is none."""


class NoMatch(DrawerError):
    """The numbers of drawers do not go together."""


class NoPiece(DrawerError):
    """What was handed in as a piece, or as a number of pieces, is none."""


class NoText(DrawerError):
    """The text tells no desk; row is the number of the first row at fault."""

    def __init__(self, row):
        self.row = row
