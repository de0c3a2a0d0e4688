"""The refusals: errors that keep the very things they are made of."""


class BenchError(ValueError):
    """Any refusal; itself it is never raised."""


class NoPaper(BenchError):
    """A paper shows nothing: path is the place of its fault, word what is amiss there."""

    def __init__(self, path, word):
        self.path = path
        self.word = word


class NoRule(BenchError):
    """What is asked is told by no rule for such works."""

    def __init__(self, word):
        self.word = word


class TooMany(BenchError):
    """There are more of what the word names than is told."""

    def __init__(self, word):
        self.word = word


class NoWork(BenchError):
    """A work's name can't be taken, or isn't there."""

    def __init__(self, name):
        self.name = name


class NoWish(BenchError):
    """A wish can't be put or taken away."""

    def __init__(self, word):
        self.word = word


class NoBack(BenchError):
    """There is no deed to take back."""

    def __init__(self):
        pass


class NoText(BenchError):
    """A text can't be read: row and word are the place of its fault."""

    def __init__(self, row, word):
        self.row = row
        self.word = word


class NoRow(BenchError):
    """A desk knows no such row."""

    def __init__(self, row):
        self.row = row
