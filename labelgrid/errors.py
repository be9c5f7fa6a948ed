"""The errors of the program."""


class GridError(ValueError):
    """The base class of all errors of the program."""


class CommandError(GridError):
    """A line of a script is no command; `line` is its number, from 1."""

    def __init__(self, line):
        GridError.__init__(self, f"line {line} is no command")
        self.line = line


class EntryError(GridError):
    """A text is no entry; `at` is the index at which it goes wrong."""

    def __init__(self, at):
        GridError.__init__(self, f"no entry: wrong at index {at}")
        self.at = at


class EditError(GridError):
    """An edit does not fit a book; `place` tells what is wrong."""

    def __init__(self, place):
        GridError.__init__(self, f"the edit does not fit: {place}")
        self.place = place
