"""Whether a holding may ever come about, by which deeds, and what has to come about on the way."""

from whomay.finish import Finish
from whomay.fitting import conditions_at, given_at


def finished_for(house, x, word, y):
    """The finished house in which the holding is looked up; refused as may is."""
    house.refuse_strange(x, word, y)
    return Finish(house)


def may(house, x, word, y):
    """True where x may ever come to hold the word over y."""
    return finished_for(house, x, word, y).round_of(x, word, y) is not None


def who(house, word, y):
    """The things of the house that may ever come to hold the word over y, in their order."""
    # There is no x that could be refused: y stands in its place.
    finish = finished_for(house, y, word, y)
    return [x for x in house.things() if finish.round_of(x, word, y) is not None]


def resting(scheme, finish, holding):
    """The holdings on which this one rests by the reasons of the finished house, itself among them.

    Refused with Never, by the finish, where it does not stand there.
    """
    found = {holding: True}
    waiting = [holding]
    while waiting:
        x, word, y = waiting.pop()
        reason = finish.reason(x, word, y)
        if reason[0] == "rule":
            for ground in conditions_at(scheme.rule(reason[1]), reason[2]):
                if ground not in found:
                    found[ground] = True
                    waiting.append(ground)
    return found


def is_needed(scheme, deed, needed):
    """True where the deed makes a thing of the needed holdings, or brings one of them about."""
    if deed[0] == "make":
        return any([deed[3] in (x, y) for x, word, y in needed])
    return given_at(scheme.rule(deed[1]), deed[2]) in needed


def how(house, x, word, y):
    """Deeds that bring the holding about, none of which can be spared."""
    finish = finished_for(house, x, word, y)
    needed = resting(house.scheme(), finish, (x, word, y))
    # Each needed holding has one reason alone, so that all that rests on a deed is lost without it.
    # What is made hangs on the house by the words of makings only, from one maker to the next: so
    # the needed holdings name the makers of each made thing that they name.
    return [deed for deed in finish.way() if is_needed(house.scheme(), deed, needed)]


def between_and_new(house, holding):
    """True where the holding is one between things of the house that does not stand in it."""
    x, word, y = holding
    names = house.things()
    return x in names and y in names and not house.holds(x, word, y)


def stones(house, x, word, y):
    """The holdings between things of the house, not standing yet, that every way there brings about."""
    asked = (x, word, y)
    needed = resting(house.scheme(), finished_for(house, x, word, y), asked)
    # Every way brings a stone about, so only what one way needs is looked at.
    left = [holding for holding in needed if holding != asked and between_and_new(house, holding)]
    found = []
    while left:
        holding = left.pop()
        other = Finish(house, [holding])
        if other.round_of(x, word, y) is None:
            found.append(holding)
        else:
            needed = resting(house.scheme(), other, asked)
            left = [each for each in left if each in needed]
    return sorted(found)
