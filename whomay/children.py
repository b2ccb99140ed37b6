"""The things that are made in finishing a house."""

from whomay.errors import Crowded
from whomay.makings import makings_from

MOST_FINISHED = 24


def many_below(scheme, sort):
    """How many things are made below one of the sort: its children, theirs, and so on."""
    return sum([1 + many_below(scheme, making.made) for making in makings_from(scheme, sort)])


def makers_of(house):
    """The things of the house that make others: those that are awake."""
    return [name for name in house.things() if house.is_awake(name)]


def refuse_crowded(house):
    """Refuse a house whose finished house would have too many things."""
    below = {sort: many_below(house.scheme(), sort) for sort in house.scheme().sorts()}
    count = len(house) + sum([below[house.sort_of(name)] for name in makers_of(house)])
    if count > MOST_FINISHED:
        raise Crowded(count)


def free_name(taken):
    """The first of m1, m2, m3 and so on that is not taken."""
    number = 1
    while f"m{number}" in taken:
        number += 1
    return f"m{number}"


def children_of(house):
    """The things that are made, in their order, each as (maker, making, name)."""
    children = []
    sort_of = {name: house.sort_of(name) for name in house.things()}
    makers = makers_of(house)
    at = 0
    # What is made makes things in its turn, so the row of makers grows while it is gone through.
    while at < len(makers):
        maker = makers[at]
        makings = makings_from(house.scheme(), sort_of[maker])
        for making in makings:
            name = free_name(sort_of)
            sort_of[name] = making.made
            makers.append(name)
            children.append((maker, making, name))
        at += 1
    return children
