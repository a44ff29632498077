"""Systems and papers written as texts."""


def show_vector(one):
    """The vector's numbers with one blank between."""
    return " ".join([str(number) for number in one])


def show_term(many, name):
    """So many of a name."""
    return name if many == 1 else f"{many} {name}"


def show_terms(names, numbers, alone):
    """The terms of the numbers above 0, each with its name, and of the number alone where it is above 0."""
    terms = [show_term(many, name) for many, name in zip(numbers, names) if many > 0]
    if alone > 0:
        terms.append(str(alone))
    return " + ".join(terms) if len(terms) > 0 else "0"


def show_row(names, row, side):
    """The line of a row and its side."""
    left = show_terms(names, row, -side)
    right = show_terms(names, [-number for number in row], side)
    return f"sum {left} = {right}"


def show_numbers(word, names, numbers):
    """The lines that give the names, by that word, the numbers that aren't None."""
    return [f"{word} {name} {number}" for name, number in zip(names, numbers) if number is not None]


def show_system(system):
    """The text of a system."""
    names = system[0]
    lines = ["of " + " ".join(names)]
    lines.extend([show_row(names, row, side) for row, side in zip(system[1], system[2])])
    lines.extend(show_numbers("cap", names, system[3]))
    # A price of 0 is what stands for no line.
    lines.extend(show_numbers("price", names, [price if price > 0 else None for price in system[4]]))
    return "\n".join(lines)


def show_paper(told, paper):
    """The text of told ones and a paper."""
    lines = ["least " + show_vector(one) for one in told] + ["step " + show_vector(one) for one in paper]
    return "\n".join(lines)
