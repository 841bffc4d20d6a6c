"""Names, whole numbers and the words of a line (points 2 to 4)."""

from curdcellar.errors import BadNumber

FIGURES = "0123456789"
NAME_SIGNS = "abcdefghijklmnopqrstuvwxyz0123456789"
LONGEST_NAME = 12
LONGEST_NUMBER = 7


def has_only(text, signs):
    return all([sign in signs for sign in text])


def is_name(text):
    return 1 <= len(text) <= LONGEST_NAME and has_only(text, NAME_SIGNS)


def whole(text):
    # int alone would let by blanks, a plus or minus and underscores.
    if 1 <= len(text) <= LONGEST_NUMBER and has_only(text, FIGURES):
        return int(text)
    raise BadNumber(f"not 1 to {LONGEST_NUMBER} figures: {text!r}")


def words(line):
    return [word for word in line.split(" ") if word != ""]
