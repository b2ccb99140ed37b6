"""Where a pattern stands in a house, and which deeds would bring something about."""

from whomay.joins import empty_spots, filling_order, fillings, first_filling, numbered_triples, steps_in
from whomay.tables import Cast, Table, things_of


def table_of(house, cast, more_words):
    """The holdings of the house as a table; words that its scheme lacks are asked for, too, and stand nowhere."""
    table = Table([*house.scheme().words(), *more_words], len(house))
    for holding in house.held():
        table.put(cast.numbered(holding))
    return table


def steps_of(table, pattern, masks, given):
    """The steps that fill the pattern where its conditions stand in the table and the given triples do not."""
    conditions = numbered_triples(pattern, pattern.conditions)
    order = filling_order(conditions, [conditions[0][0]])
    return steps_in(order, masks, table, conditions, table, numbered_triples(pattern, given))


def named_fillings(cast, table, pattern, masks, given):
    """The tuples of names at which the conditions stand in the table and the given triples do not."""
    steps = steps_of(table, pattern, masks, given)
    spots = empty_spots(len(steps), len(cast.names))
    return [tuple([cast.names[number] for number in row]) for row in fillings(steps, 0, spots)]


def one_match(cast, table, pattern):
    """One tuple of names at which the pattern stands in the table, or None."""
    steps = steps_of(table, pattern, cast.masks_for(pattern), [])
    row = first_filling(steps, 0, empty_spots(len(steps), len(cast.names)))
    if row is None:
        return None
    return tuple([cast.names[number] for number in row])


def matches(house, pattern):
    """All tuples of things at which the pattern stands in the house, sorted."""
    cast = Cast(things_of(house))
    table = table_of(house, cast, [word for x, word, y in pattern.conditions])
    return sorted(named_fillings(cast, table, pattern, cast.masks_for(pattern), []))


def open_deeds(house):
    """All deeds by rules that the house would play and that would bring about something new, sorted."""
    cast = Cast(things_of(house))
    table = table_of(house, cast, [])
    deeds = []
    for rule in house.scheme().rules():
        rows = named_fillings(cast, table, rule, cast.masks_to_do(rule), [rule.gives])
        deeds.extend([("do", rule.name, row) for row in rows])
    return sorted(deeds)
