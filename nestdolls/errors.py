"""The errors that nestdolls raises."""


class DollError(ValueError):
    """Stands over all errors of nestdolls."""


class NoMove(DollError):
    """Something is no move that can be done; at is its place in the row, 0 for a single move."""

    def __init__(self, at):
        super().__init__(f"no move that can be done, at place {at}")
        self.at = at


class NoOrder(DollError):
    """Something is no order in which to look into the dolls; made of a text."""
