"""Deeds from inside a house: makings, rules that are followed, holdings that are let go."""

from whomay.errors import Asleep, Misfit, NoDeed, NoSort, NotHeld, WhoError
from whomay.fitting import conditions_at, given_at, hand_at
from whomay.makings import made_holdings, making_between


def refuse_asleep(house, name):
    """Refuse a hand that is asleep."""
    if not house.is_awake(name):
        raise Asleep(name)


def refuse_not_held(house, x, word, y):
    """Refuse a holding that does not stand."""
    if not house.holds(x, word, y):
        raise NotHeld(x, word, y)


def refuse_misfit(house, rule, things):
    """Refuse things that are too few, too many or not of the variables' sorts."""
    if len(things) != len(rule.variables):
        raise Misfit(rule.name)
    for (variable, sort), thing in zip(rule.variables, things):
        if sort is not None and house.sort_of(thing) != sort:
            raise Misfit(rule.name)


def play_make(house, maker, sort, name):
    """Let the maker make a new thing."""
    house.refuse_no_thing(maker)
    if sort not in house.scheme().sorts():
        raise NoSort(sort)
    refuse_asleep(house, maker)
    making = making_between(house.scheme(), house.sort_of(maker), sort)
    house.enter(name, sort)
    for x, word, y in made_holdings(making, maker, name):
        house.give(x, word, y)


def play_do(house, name, things):
    """Let what the rule of that name gives at the things stand."""
    rule = house.scheme().rule(name)
    for thing in things:
        house.refuse_no_thing(thing)
    refuse_misfit(house, rule, things)
    refuse_asleep(house, hand_at(rule, things))
    for x, word, y in conditions_at(rule, things):
        refuse_not_held(house, x, word, y)
    x, word, y = given_at(rule, things)
    house.give(x, word, y)


def play_drop(house, x, word, y):
    """Let x let its own holding go."""
    house.refuse_strange(x, word, y)
    refuse_asleep(house, x)
    house.take(x, word, y)


def play(house, deed):
    """Do the deed in the house."""
    if deed[0] == "make":
        play_make(house, deed[1], deed[2], deed[3])
    elif deed[0] == "do":
        play_do(house, deed[1], deed[2])
    elif deed[0] == "drop":
        play_drop(house, deed[1], deed[2], deed[3])
    else:
        raise NoDeed(deed[0])


def after(house, deeds):
    """A new house: this one with the deeds played one by one."""
    later = house.twin()
    for deed in deeds:
        play(later, deed)
    return later


def first_refused(house, deeds):
    """The place of the first deed that is refused, or None where all can be played."""
    later = house.twin()
    for place, deed in enumerate(deeds):
        try:
            play(later, deed)
        except WhoError:
            return place
    return None
