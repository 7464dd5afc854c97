"""Readers: they read a row, one thing behind the other."""

from guessedworlds.errors import BadRow
from guessedworlds.rows import signed_at, whole_at


class Reader:
    """Stands at a place of a right row; BadRow tells the place at which something does not stand there."""

    def __init__(self, row, at):
        self.row = row
        self.at = at

    def byte(self):
        """The byte that stands here."""
        if self.at == len(self.row):
            raise BadRow(self.at)
        self.at = self.at + 1
        return self.row[self.at - 1]

    def whole(self):
        """The number that stands here."""
        number, self.at = whole_at(self.row, self.at)
        return number

    def signed(self):
        """The integer, below 0 or not, that stands here."""
        number, self.at = signed_at(self.row, self.at)
        return number

    def wholes(self, many):
        """The tuple of so many numbers that stand here."""
        found = []
        for _ in range(many):
            found.append(self.whole())
        return tuple(found)

    def signeds(self, many):
        """The tuple of so many integers, below 0 or not, that stand here."""
        found = []
        for _ in range(many):
            found.append(self.signed())
        return tuple(found)

    def stretch(self, many):
        """The tuple of so many bytes that stand here."""
        if many > len(self.row) - self.at:
            raise BadRow(self.at)
        self.at = self.at + many
        return self.row[self.at - many:self.at]

    def close(self):
        """Nothing more may stand here."""
        if self.at < len(self.row):
            raise BadRow(self.at)
