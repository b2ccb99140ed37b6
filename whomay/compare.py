"""Two schemes: which rules follow from which, looked at in the least houses in which a rule can be followed."""

from whomay.errors import Freer, Misfit, NoSort, NoWord, Unlike
from whomay.houses import House
from whomay.ways import way_or_none


def refuse_strange_rule(scheme, rule):
    """Refuse a rule with a sort or a word that the scheme lacks."""
    for variable, sort in rule.variables:
        if sort is not None and sort not in scheme.sorts():
            raise NoSort(sort)
    for x, word, y in [*rule.conditions, rule.gives]:
        if word not in scheme.words():
            raise NoWord(word)


def sort_rows(scheme, rule):
    """All rows of sorts that things for the rule's variables can have, the first one changing slowest."""
    refuse_strange_rule(scheme, rule)
    rows = [()]
    for variable, sort in rule.variables:
        free = scheme.sorts() if sort is None else [sort]
        rows = [(*row, each) for row in rows for each in free]
    return rows


def house_for(scheme, rule, row):
    """The least house for a row of sorts that is known to be one."""
    house = House(scheme)
    for (variable, own), sort in zip(rule.variables, row):
        house.enter(variable, sort, variable == rule.by)
    for x, word, y in rule.conditions:
        house.give(x, word, y)
    return house


def least_house(scheme, rule, sorts):
    """The house with one thing for each variable, of these sorts, and the rule's conditions alone."""
    if sorts not in sort_rows(scheme, rule):
        raise Misfit(rule.name)
    return house_for(scheme, rule, sorts)


def look_of(rule, row, asked):
    """The row of sorts with None for each sort that changes nothing in the least house.

    The hand alone makes things. Of what sort another thing is shows only where a rule asks for it.
    """
    return tuple([
        sort if variable == rule.by or sort in asked else None
        for (variable, own), sort in zip(rule.variables, row)
    ])


def ways_by_row(scheme, rule):
    """A list of (row, way): for each row of sorts a way to what the rule gives in its least house.

    It ends with the first row that has no way, and has None there.
    """
    asked = [sort for each in scheme.rules() for variable, sort in each.variables]
    x, word, y = rule.gives
    way_by_look = {}
    rows = []
    for row in sort_rows(scheme, rule):
        look = look_of(rule, row, asked)
        if look not in way_by_look:
            way_by_look[look] = way_or_none(house_for(scheme, rule, row), x, word, y)
        if way_by_look[look] is None:
            return [*rows, (row, None)]
        rows.append((row, list(way_by_look[look])))
    return rows


def follows(scheme, rule):
    """True where whatever the rule gives may come about by the scheme as well."""
    return ways_by_row(scheme, rule)[-1][1] is not None


def refuse_unlike(one, other):
    """Refuse two schemes that have not the same sorts, words and makings."""
    if one.sorts() != other.sorts():
        raise Unlike("sorts")
    if one.words() != other.words():
        raise Unlike("words")
    if one.makings() != other.makings():
        raise Unlike("makings")


def freer(one, other):
    """The first rule of the one, with its row of sorts, that does not follow from the other, or None."""
    refuse_unlike(one, other)
    for rule in one.rules():
        row, way = ways_by_row(other, rule)[-1]
        if way is None:
            return (rule.name, row)
    return None


def carried(one, other):
    """For each rule of the one and each row of sorts a way by the other to what the rule gives."""
    refuse_unlike(one, other)
    found = []
    for rule in one.rules():
        for row, way in ways_by_row(other, rule):
            if way is None:
                raise Freer(rule.name, row)
            found.append((rule.name, row, way))
    return found


def leaner(scheme):
    """The scheme without the rules that follow from the others."""
    left = scheme
    for rule in scheme.rules():
        rest = left.without_rule(rule.name)
        if follows(rest, rule):
            left = rest
    return left
