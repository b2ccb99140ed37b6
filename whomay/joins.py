"""How the variables of a pattern are filled one by one, each by the things that fit those ahead of it.

Variables are numbered by their places in the pattern. The things put in so far stand in a list of
spots, one for each variable; the spot behind them is the number of a table's row for things that
hold a word over themselves.
"""

from whomay.tables import members


def numbered_triples(pattern, triples):
    """The triples with the numbers of their variables."""
    places = [name for name, sort in pattern.variables]
    return [(places.index(x), word, places.index(y)) for x, word, y in triples]


def next_tied(triples, ahead):
    """The first variable that a triple ties to one of those ahead, or None."""
    for x, word, y in triples:
        if x in ahead and y not in ahead:
            return y
        if y in ahead and x not in ahead:
            return x
    return None


def filling_order(conditions, first):
    """All variables, the first ones ahead, each of the others tied to one ahead of it."""
    order = list(first)
    variable = next_tied(conditions, order)
    while variable is not None:
        order.append(variable)
        variable = next_tied(conditions, order)
    return order


def links(table, triples, variable, ahead, itself):
    """The rows of the table that the triples ask for the variable, each with the spot that picks the row."""
    found = []
    for x, word, y in triples:
        if x == variable and y == variable:
            found.append((table.over[word], itself))
        elif y == variable and x in ahead:
            found.append((table.over[word], x))
        elif x == variable and y in ahead:
            found.append((table.under[word], y))
    return found


class Step:
    """A variable to be filled: by a thing that fits, stands in all rows of ties and in none of gaps."""

    def __init__(self, variable, fits, ties, gaps):
        self.variable = variable
        self.fits = fits
        self.ties = ties
        self.gaps = gaps


def steps_in(order, masks, table, conditions, closed, given):
    """A step for each variable in the order.

    The conditions have to stand in the table, the given triples must not stand in the closed one.
    """
    steps = []
    for at, variable in enumerate(order):
        ties = links(table, conditions, variable, order[:at], len(order))
        gaps = links(closed, given, variable, order[:at], len(order))
        steps.append(Step(variable, masks[variable], ties, gaps))
    return steps


def choices(step, spots):
    """The mask of the things that may stand for the step's variable, those ahead of it being filled."""
    mask = step.fits
    for rows, spot in step.ties:
        mask &= rows[spots[spot]]
    for rows, spot in step.gaps:
        mask &= ~rows[spots[spot]]
    return mask


def empty_spots(many, size):
    """Spots for that many variables, in a table of that many things."""
    return [0] * many + [size]


def fillings(steps, at, spots):
    """All ways to fill the steps from that place on, those ahead being filled, as tuples of numbers."""
    if at == len(steps):
        return [tuple(spots[:-1])]
    numbers = members(choices(steps[at], spots))
    found = []
    for number in numbers:
        spots[steps[at].variable] = number
        found.extend(fillings(steps, at + 1, spots))
    return found


def first_filling(steps, at, spots):
    """The first of the fillings, or None where there is none."""
    if at == len(steps):
        return tuple(spots[:-1])
    numbers = members(choices(steps[at], spots))
    for number in numbers:
        spots[steps[at].variable] = number
        found = first_filling(steps, at + 1, spots)
        if found is not None:
            return found
    return None
