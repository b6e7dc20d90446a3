"""Hill rows written as runs: a sign, and how many of it stand together."""

from hillrows.counts import MOST_SIGNS
from hillrows.errors import NoText
from hillrows.rows import DOWN, UP, check_hill

BLANK = " "
NO_RUNS = "-"


def runs(row):
    """A hill row's runs, one blank between."""
    check_hill(row)
    if row == "":
        return NO_RUNS
    return " ".join([f"{part[0]}{len(part)}" for part in equal_signs(row)])


def equal_signs(row):
    """The list of a row's longest parts of one sign."""
    parted = row.replace(UP + DOWN, UP + BLANK + DOWN).replace(DOWN + UP, DOWN + BLANK + UP)
    return parted.split(BLANK)


def row_of(text):
    """The hill row of which these are the runs."""
    if text == NO_RUNS:
        return ""
    words = text.split(BLANK)
    check_words(words)
    return "".join([word[0] * int(word[1:]) for word in words])


def check_words(words):
    """Refuse words that are no runs of a hill row."""
    height = 0
    ahead = ""
    for number, word in enumerate(words):
        if not is_run(word) or word[0] == ahead:
            raise NoText(number)
        ahead = word[0]
        height += rise(word)
        if height < 0:
            raise NoText(number)
    if height != 0:
        raise NoText(len(words))


def rise(run):
    """How much higher the height is behind a run."""
    many = int(run[1:])
    return many if run[0] == UP else -many


def is_run(word):
    """Whether a word is a sign and how many of it stand together."""
    return word[:1] in (UP, DOWN) and is_length(word[1:])


def is_length(text):
    """Whether a text is a number from 1 to the most signs, without a nought ahead."""
    if not (text.isascii() and text.isdigit()) or text[0] == "0":
        return False
    # More digits are not read at all: Python reads no number of very many digits.
    return len(text) <= len(str(MOST_SIGNS)) and int(text) <= MOST_SIGNS
