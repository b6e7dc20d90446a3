"""The refusals: one class for each kind, all of them a HillError."""


class HillError(ValueError):
    """Any refusal."""


class NoRow(HillError):
    """A text that is no row, or no hill row where one is asked for."""


class NoCount(HillError):
    """What is no number of ups, height, number of signs, times or ceiling."""


class NoRank(HillError):
    """What is the number of no hill row."""


class NoPlace(HillError):
    """What is no place of a row's sign."""


class NoTree(HillError):
    """What is no grove."""


class NoPairs(HillError):
    """A list that is told of no hill row."""


class NoTurn(HillError):
    """A text that is no row with one more down than ups."""


class NoText(HillError):
    """A text that tells no hill row's runs; word is the number of the word where it fails."""

    def __init__(self, word):
        super().__init__(f"no runs of a hill row, seen at word {word}")
        self.word = word
