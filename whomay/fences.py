"""Fences: what may ever come about, told by sorts alone."""

from whomay.compare import sort_rows
from whomay.errors import NoSort, NoWord
from whomay.fitting import conditions_at, given_at
from whomay.makings import made_holdings


def refuse_strange_sorts(scheme, triples):
    """Refuse the first triple of which the scheme lacks a part."""
    for first, word, third in triples:
        for sort in (first, third):
            if sort not in scheme.sorts():
                raise NoSort(sort)
        if word not in scheme.words():
            raise NoWord(word)


def steps_by_sorts(scheme):
    """For each rule and each of its rows of sorts, the triples it asks for and the one it gives."""
    return [
        (conditions_at(rule, row), given_at(rule, row))
        for rule in scheme.rules() for row in sort_rows(scheme, rule)
    ]


def fence(scheme, start):
    """The least list of triples that has all of start and that no deed leads out of."""
    refuse_strange_sorts(scheme, start)
    found = {triple: True for triple in start}
    for making in scheme.makings():
        for triple in made_holdings(making, making.maker, making.made):
            found[triple] = True
    steps = steps_by_sorts(scheme)
    many = -1
    while len(found) > many:
        many = len(found)
        for asked, given in steps:
            if all([triple in found for triple in asked]):
                found[given] = True
    return sorted(found)


def sorts_held(house):
    """The triples of the house's holdings, the sorts of its things put in."""
    return sorted({(house.sort_of(x), word, house.sort_of(y)) for x, word, y in house.held()})
