"""Lines of texts: each closed by a line feed, but perhaps the last one."""

from guessedworlds.errors import BadText

BESIDE = "!"


def lines_of(text):
    """The list of the lines of a text."""
    lines = text.split("\n")
    return lines[:-1] if lines[-1] == "" else lines


class TextLines:
    """Stands at a line of a text; BadText tells the number of a line, counted from 1."""

    def __init__(self, text):
        if not isinstance(text, str):
            raise BadText(0)
        self.lines = lines_of(text)
        # How many lines were taken: the number of the last one.
        self.number = 0

    def take_row(self):
        """The next line as it stands."""
        if self.number == len(self.lines):
            raise BadText(self.number + 1)
        self.number = self.number + 1
        return self.lines[self.number - 1]

    def skip_nothing(self):
        """Goes by the lines that are nothing."""
        while self.number < len(self.lines):
            line = self.lines[self.number].strip(" ")
            if line != "" and not line.startswith(BESIDE):
                return
            self.number = self.number + 1

    def is_over(self):
        """Whether all lines that are left are nothing."""
        self.skip_nothing()
        return self.number == len(self.lines)

    def take(self):
        """The next line that is not nothing, without the blanks about it."""
        self.skip_nothing()
        return self.take_row().strip(" ")

    def first_word(self):
        """The first word of the next line that is not nothing, none if there is no such line."""
        return "" if self.is_over() else self.lines[self.number].split()[0]
