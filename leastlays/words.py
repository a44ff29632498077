"""The words of a line: names, and numbers written by figures."""

LETTERS = "abcdefghijklmnopqrstuvwxyz"
FIGURES = "0123456789"

# The greatest number that a system's text or a line of the desk may write.
TOP = 1000000000000


def is_name(word):
    """Whether it is a name: one to eight letters from a to z."""
    return 1 <= len(word) <= 8 and all([sign in LETTERS for sign in word])


def is_written(word):
    """Whether it is figures alone, at least one, with no 0 ahead but in 0 itself."""
    # Signs of other scripts count as digits for Python too, so each is looked up here.
    if not all([sign in FIGURES for sign in word]):
        return False
    return word == "0" or (word != "" and word[0] != "0")


def read_figures(word, most):
    """The number that the word writes with at most so many figures, None where it writes none."""
    # The length is asked ahead: int refuses a text of some thousand figures.
    if len(word) > most or not is_written(word):
        return None
    return int(word)


def read_number(word, top):
    """The number from 0 to top that the word writes, None where it writes none."""
    number = read_figures(word, len(str(top)))
    if number is None or number > top:
        return None
    return number
