"""Whether a holding may ever come about, by which deeds, and what has to come about on the way."""

from whomay.errors import Never
from whomay.finish import Finish
from whomay.fitting import conditions_at, given_at


def finished_for(house, x, word, y):
    """The finished house in which the holding is looked up; refused as may is."""
    house.refuse_strange(x, word, y)
    return Finish(house)


def may(house, x, word, y):
    """True where x may ever come to hold the word over y."""
    return finished_for(house, x, word, y).round_of(x, word, y) is not None


def who(house, word, y):
    """The things of the house that may ever come to hold the word over y, in their order."""
    # There is no x that could be refused: y stands in its place.
    finish = finished_for(house, y, word, y)
    return [x for x in house.things() if finish.round_of(x, word, y) is not None]


def resting(scheme, finish, holdings):
    """The holdings on which these rest by the reasons of the finished house, themselves among them.

    Refused with Never, by the finish, where one of them does not stand there.
    """
    found = {holding: True for holding in holdings}
    waiting = list(holdings)
    while waiting:
        x, word, y = waiting.pop()
        reason = finish.reason(x, word, y)
        if reason[0] == "rule":
            for ground in conditions_at(scheme.rule(reason[1]), reason[2]):
                if ground not in found:
                    found[ground] = True
                    waiting.append(ground)
    return found


def needed_makes(finish, holdings):
    """The deeds that make the things of the holdings, with those that make their makers."""
    wanted = {end: True for x, word, y in holdings for end in (x, y)}
    found = []
    for deed in reversed(finish.makes):
        if deed[3] in wanted:
            wanted[deed[1]] = True
            found.append(deed)
    return found[::-1]


def deeds_for(scheme, finish, holdings):
    """Those deeds of the finish's way that the holdings need to come about."""
    needed = resting(scheme, finish, holdings)
    steps = [deed for deed in finish.way() if deed[0] == "do"]
    # Each needed holding has one reason alone, so that all that rests on a deed is lost without it.
    return [
        *needed_makes(finish, needed),
        *[deed for deed in steps if given_at(scheme.rule(deed[1]), deed[2]) in needed],
    ]


def how(house, x, word, y):
    """Deeds that bring the holding about, none of which can be spared."""
    return deeds_for(house.scheme(), finished_for(house, x, word, y), [(x, word, y)])


def way_or_none(house, x, word, y):
    """A way there, or None where there is none."""
    try:
        return how(house, x, word, y)
    except Never:
        return None


def between_and_new(house, holding):
    """True where the holding is one between things of the house that does not stand in it."""
    x, word, y = holding
    names = house.things()
    return x in names and y in names and not house.holds(x, word, y)


def stones(house, x, word, y):
    """The holdings between things of the house, not standing yet, that every way there brings about."""
    asked = (x, word, y)
    needed = resting(house.scheme(), finished_for(house, x, word, y), [asked])
    # Every way brings a stone about, so only what one way needs is looked at.
    left = [holding for holding in needed if holding != asked and between_and_new(house, holding)]
    found = []
    while left:
        holding = left.pop()
        other = Finish(house, [holding])
        if other.round_of(x, word, y) is None:
            found.append(holding)
        else:
            needed = resting(house.scheme(), other, [asked])
            left = [each for each in left if each in needed]
    return sorted(found)
