"""A system as its text's lines come in, one by one."""

from leastlays.words import TOP, is_name, read_number


def parted(words):
    """The lists of words between the pluses."""
    groups = [[]]
    for word in words:
        if word == "+":
            groups.append([])
        else:
            groups[-1].append(word)
    return groups


def read_term(names, words):
    """(place, number) of a term, the place of a number alone one beyond the names' last; None where it is no term."""
    place = len(names)
    figures = words
    if len(words) > 0 and words[-1] in names:
        place = names.index(words[-1])
        # A name by itself stands for one of it.
        figures = words[:-1] if len(words) > 1 else ["1"]
    if len(figures) != 1:
        return None
    number = read_number(figures[0], TOP)
    if number is None or number == 0:
        return None
    return (place, number)


def read_terms(names, words):
    """What stands there of each name and, last, of numbers alone; None where the words are no terms."""
    totals = [0] * (len(names) + 1)
    if words == ["0"]:
        return totals
    terms = [read_term(names, group) for group in parted(words)]
    if None in terms:
        return None
    for place, number in terms:
        totals[place] += number
    return totals


def read_sum(names, words):
    """What stands of each name and, last, of numbers alone on the left less what stands on the right; or None."""
    if words.count("=") != 1:
        return None
    middle = words.index("=")
    left = read_terms(names, words[:middle])
    right = read_terms(names, words[middle + 1:])
    if left is None or right is None:
        return None
    # Only what they come to at last is bounded, not what they come to on the way.
    rest = [a - b for a, b in zip(left, right)]
    return rest if max([abs(number) for number in rest]) <= TOP else None


def take_number(names, words, kept):
    """Keeps in the dict the number that the words give a name; whether they give one, and it had none there."""
    if len(words) != 2 or words[0] not in names or words[0] in kept:
        return False
    number = read_number(words[1], TOP)
    if number is None:
        return False
    kept[words[0]] = number
    return True


class Draft:
    """What the lines taken so far say of a system; it has no names ahead of the first line."""

    def __init__(self):
        self.names = ()
        self.rows = []
        self.sides = []
        self.caps = {}
        self.prices = {}

    def take(self, words):
        """Takes the words of the next line; whether they are a line that may stand there."""
        if len(self.names) == 0:
            return words[0] == "of" and self.take_names(words[1:])
        if words[0] == "sum":
            return self.take_sum(words[1:])
        if words[0] == "cap":
            return take_number(self.names, words[1:], self.caps)
        return words[0] == "price" and take_number(self.names, words[1:], self.prices)

    def take_names(self, words):
        """Takes the names; whether they are one to seven unlike ones."""
        if not 1 <= len(words) <= 7 or len(set(words)) < len(words) or not all([is_name(word) for word in words]):
            return False
        self.names = tuple(words)
        return True

    def take_sum(self, words):
        """Takes a row and its side; whether they are a sum, at most the sixth."""
        rest = read_sum(self.names, words)
        if rest is None or len(self.rows) == 6:
            return False
        self.rows.append(tuple(rest[:-1]))
        self.sides.append(-rest[-1])
        return True

    def whole(self):
        """The system."""
        caps = tuple([self.caps.get(name) for name in self.names])
        prices = tuple([self.prices.get(name, 0) for name in self.names])
        return (self.names, tuple(self.rows), tuple(self.sides), caps, prices)
