"""Systems and papers read from texts."""

from leastlays.drafting import Draft
from leastlays.errors import NoText
from leastlays.words import read_figures


def read_vector(words):
    """The vector that the words write, one to eight numbers of up to 60 figures; None where they write none."""
    numbers = [read_figures(word, 60) for word in words]
    if not 1 <= len(numbers) <= 8 or None in numbers:
        return None
    return tuple(numbers)


class Sheet:
    """What the lines taken so far say of told ones and a paper."""

    def __init__(self):
        self.least_ones = []
        self.walked = []

    def take(self, words):
        """Takes the words of the next line; whether they are a line that may stand there."""
        one = read_vector(words[1:])
        if one is None or not self.fits(one):
            return False
        if words[0] == "least" and len(self.walked) == 0:
            self.least_ones.append(one)
            return True
        if words[0] == "step":
            self.walked.append(one)
            return True
        return False

    def fits(self, one):
        """Whether the vector has as many numbers as the first one taken."""
        # All taken are as wide as the first, so any of them does.
        return all([len(one) == len(other) for other in self.least_ones[:1] + self.walked[:1]])


def take_all(draft, lines):
    """Lets the draft take the lines; refused with NoText at the first one that it doesn't take."""
    for number, line in enumerate(lines, start=1):
        if not draft.take(line.split(" ")):
            raise NoText(number)


def read_system(text):
    """The system that the text writes; NoText where it writes none."""
    draft = Draft()
    take_all(draft, text.split("\n"))
    return draft.whole()


def read_paper(text):
    """(told, paper) that the text writes; NoText where it writes none."""
    sheet = Sheet()
    # The empty text has no line at all, not an empty one.
    if text != "":
        take_all(sheet, text.split("\n"))
    return (tuple(sheet.least_ones), tuple(sheet.walked))
