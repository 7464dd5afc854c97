"""Readers: they read a row, one thing behind the other."""

from guessedworlds.errors import BadRow
from guessedworlds.rows import signed_at, whole_at


class Reader:
    """Stands at a place of a right row; BadRow tells the place at which something does not stand there."""

    def __init__(self, row, at):
        self.row = row
        self.at = at

    def whole(self):
        """The number that stands here."""
        number, self.at = whole_at(self.row, self.at)
        return number

    def signed(self):
        """The integer, below 0 or not, that stands here."""
        number, self.at = signed_at(self.row, self.at)
        return number

    def wholes(self, many):
        """The tuple of so many numbers that stand here."""
        found = []
        for _ in range(many):
            found.append(self.whole())
        return tuple(found)

    def signeds(self, many):
        """The tuple of so many integers, below 0 or not, that stand here."""
        found = []
        for _ in range(many):
            found.append(self.signed())
        return tuple(found)

    def close(self):
        """Nothing more may stand here."""
        if self.at < len(self.row):
            raise BadRow(self.at)
