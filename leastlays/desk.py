"""The desk: lines asked of a system that a text writes, and answered with texts."""

from leastlays.caps import free
from leastlays.errors import NoAnswer, NoLine, TooMany
from leastlays.finding import least
from leastlays.lays import laid
from leastlays.narrowing import by_rows
from leastlays.prices import cheapest
from leastlays.reading import read_system
from leastlays.showing import show_vector
from leastlays.sides import beyond
from leastlays.sums import is_answer
from leastlays.vectors import size
from leastlays.ways import way
from leastlays.words import TOP, read_number

# The lines that have MOST alone, the greatest MOST, and the greatest size of a vector whose way is told.
LISTS = ("least", "beyond", "cheapest", "rows")
GREATEST_MOST = 2000
GREATEST_WAY = 300


def is_line(word, numbers, width):
    """Whether this word and these numbers are a line of the desk, where there are so many names."""
    if word == "way":
        return len(numbers) == width
    if word == "lay":
        return len(numbers) == width + 1 and numbers[0] <= GREATEST_MOST
    return word in LISTS and len(numbers) == 1 and numbers[0] <= GREATEST_MOST


def filled(text, empty):
    """The text, or what stands for it where it is empty."""
    return empty if text == "" else text


def show_vectors(some):
    """The vectors with semicolons between, a dash for none."""
    return filled("; ".join([show_vector(one) for one in some]), "-")


def show_times(many, one):
    """So many times a vector."""
    vector = show_vector(one)
    return f"{many} * {vector}"


class Desk:
    """Keeps a system and answers lines."""

    def __init__(self, text):
        system = read_system(text)
        self.names = system[0]
        self.rows = system[1]
        self.sides = system[2]
        self.caps = system[3]
        self.prices = system[4]

    def say(self, line):
        """The answer to the line; NoLine where it, which may be anything, is none of the desk's lines."""
        if not isinstance(line, str):
            raise NoLine("a line is a text")
        words = line.split(" ")
        numbers = [read_number(word, TOP) for word in words[1:]]
        if None in numbers or not is_line(words[0], numbers, len(self.names)):
            raise NoLine("the line is none of the desk's")
        try:
            return self.say_by(words[0], tuple(numbers))
        except NoAnswer:
            return "no answer"
        except TooMany:
            return "too many"

    def say_by(self, word, numbers):
        """The answer to a line of the desk; NoAnswer and TooMany where it is to say so."""
        if word == "way":
            return self.say_way(numbers)
        if word == "lay":
            return self.say_lay(numbers[0], numbers[1:])
        if word == "least":
            return show_vectors(least(self.rows, self.caps, numbers[0])[0])
        if word == "rows":
            return self.say_rows(numbers[0])
        found = beyond(self.rows, self.sides, len(self.names), numbers[0])
        if word == "beyond":
            return show_vectors(found[0]) + " | " + show_vectors(found[1])
        return self.say_cheapest(found[0])

    def say_rows(self, most):
        """How many least answers there are ahead of the first row and behind each."""
        return " ".join([str(len(stage)) for stage in by_rows(self.rows, len(self.names), most)])

    def say_cheapest(self, some):
        """The cheapest of the vectors and what it costs."""
        found = cheapest(some, self.prices)
        if found is None:
            return "-"
        price = found[0]
        vector = show_vector(found[1])
        return f"{price}: {vector}"

    def say_way(self, one):
        """The names on the way to the vector."""
        # A vector that is no answer is refused whatever its size, so that is asked ahead of the size.
        if is_answer(self.rows, one) and size(one) > GREATEST_WAY:
            raise TooMany("the way is too long")
        return filled(" ".join([self.names[j] for j in way(self.rows, one)]), "-")

    def say_lay(self, most, one):
        """The least answers of the rows that the vector is laid in, each with its count."""
        if not is_answer(self.rows, one):
            raise NoAnswer("the vector is no answer to the rows")
        told = least(self.rows, free(len(one)), most)[0]
        parts = [show_times(many, part) for many, part in zip(laid(told, one), told) if many > 0]
        return filled(" + ".join(parts), "0")
