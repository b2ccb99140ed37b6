"""Papers, which claim to be finished houses, and whether they or deeds show what they are to show."""

from whomay.deeds import after
from whomay.errors import WhoError
from whomay.finish import Finish
from whomay.joins import empty_spots, first_filling, numbered_triples, steps_in
from whomay.makings import made_holdings, makings_from
from whomay.names import first_twice
from whomay.tables import Cast, Table, things_of


def rows_of(house):
    """The things of the house as a paper has them."""
    return [(name, sort, awake, None) for name, sort, awake in things_of(house)]


def paper_of(house):
    """The paper of the finished house."""
    finish = Finish(house)
    made = [(name, sort, True, maker) for kind, maker, sort, name in finish.makes]
    return ([*rows_of(house), *made], finish.held())


def is_strange(holding, names, words):
    """True where the holding has a thing that is none of the names or a word that is none of the words."""
    x, word, y = holding
    return x not in names or y not in names or word not in words


def children_in(things):
    """For each maker and sort, the first thing of the paper that is the child."""
    child_by_maker = {}
    for name, sort, awake, maker in things:
        if awake and (maker, sort) not in child_by_maker:
            child_by_maker[(maker, sort)] = name
    return child_by_maker


def wanted_children(scheme, things):
    """The makings by which the paper's things have to have a child, thing by thing, as (thing, making)."""
    makers = [(name, sort) for name, sort, awake, maker in things if awake]
    return [(name, making) for name, sort in makers for making in makings_from(scheme, sort)]


def things_fault(house, things):
    """What is amiss with the things as such, or None."""
    many = len(house)
    if things[:many] != rows_of(house) or None in [maker for name, sort, awake, maker in things[many:]]:
        return ("things",)
    names = [name for name, sort, awake, maker in things]
    place = first_twice(names)
    if place is not None:
        return ("twice", names[place])
    return None


def strange_fault(scheme, things, holdings):
    """The first holding of what is none, or None."""
    names = {name: True for name, sort, awake, maker in things}
    words = scheme.words()
    for x, word, y in holdings:
        if is_strange((x, word, y), names, words):
            return ("strange", x, word, y)
    return None


def child_fault(scheme, things):
    """The first child that lacks, or None."""
    child_by_maker = children_in(things)
    for name, making in wanted_children(scheme, things):
        if (name, making.made) not in child_by_maker:
            return ("child", name, making.made)
    return None


def first_lacking(kind, wanted, standing):
    """The first of the wanted holdings that does not stand, told as that kind of fault, or None."""
    for x, word, y in wanted:
        if (x, word, y) not in standing:
            return (kind, x, word, y)
    return None


def made_fault(scheme, things, standing):
    """The first holding between a thing and its child that lacks, or None."""
    child_by_maker = children_in(things)
    wanted = []
    for name, making in wanted_children(scheme, things):
        wanted.extend(made_holdings(making, name, child_by_maker[(name, making.made)]))
    return first_lacking("word", wanted, standing)


def rule_fault(scheme, things, holdings):
    """The first rule that gives something that lacks, at the first tuple, or None."""
    # Numbered by their sorted names, the things are filled in from the first tuple on.
    cast = Cast(sorted([(name, sort, awake) for name, sort, awake, maker in things]))
    table = Table(scheme.words(), len(things))
    for holding in holdings:
        table.put(cast.numbered(holding))
    for rule in scheme.rules():
        order = list(range(len(rule.variables)))
        conditions = numbered_triples(rule, rule.conditions)
        given = numbered_triples(rule, [rule.gives])
        steps = steps_in(order, cast.masks_to_do(rule), table, conditions, table, given)
        row = first_filling(steps, 0, empty_spots(len(order), len(things)))
        if row is not None:
            return ("rule", rule.name, tuple([cast.names[number] for number in row]))
    return None


def fault(house, paper):
    """The first that is amiss with the paper, or None where nothing is."""
    things, holdings = paper
    scheme = house.scheme()
    standing = {holding: True for holding in holdings}
    return (
        things_fault(house, things)
        or strange_fault(scheme, things, holdings)
        or child_fault(scheme, things)
        or first_lacking("held", house.held(), standing)
        or made_fault(scheme, things, standing)
        or rule_fault(scheme, things, holdings)
    )


def keeps_out(house, paper, x, word, y):
    """True where nothing is amiss with the paper and the holding is not in it."""
    house.refuse_strange(x, word, y)
    return fault(house, paper) is None and (x, word, y) not in paper[1]


def brings(house, deeds, x, word, y):
    """True where the house can play all the deeds and the holding stands behind them."""
    house.refuse_strange(x, word, y)
    try:
        later = after(house, deeds)
    except WhoError:
        return False
    return later.holds(x, word, y)
