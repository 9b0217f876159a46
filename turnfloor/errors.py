"""The refusals: each one right under FloorError, none under another."""


class FloorError(ValueError):
    """Any refusal."""


class BadFloor(FloorError):
    """What is no list of texts that tells a floor, or tells one without a cell."""


class Parted(FloorError):
    """The cells do not hang together."""


class Holed(FloorError):
    """Some places that are no cells are shut in by cells."""


class NoCell(FloorError):
    """What is no cell of the floor."""


class BadLaying(FloorError):
    """What is no laying of the floor."""


class NoLaying(FloorError):
    """The floor has no laying."""


class NoHeights(FloorError):
    """The numbers are not the heights of any laying."""


class NoTurn(FloorError):
    """What is no corner at which there can be a turn."""


class BadText(FloorError):
    """What is no text of a laying of a floor."""
