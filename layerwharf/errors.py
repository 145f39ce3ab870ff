"""The errors that the program raises on purpose."""


class Refused(ValueError):
    """What every error of this program is."""


class Malformed(Refused):
    """A text is not the text of an image or a bundle; line is the number of a line, from 0."""

    def __init__(self, line):
        super().__init__(f"line {line} is malformed")
        self.line = line


class Misused(Refused):
    """An event is of no kind that exists; word is its first element."""

    def __init__(self, word):
        super().__init__(f"no event is of the kind {word!r}")
        self.word = word
