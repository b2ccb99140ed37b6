"""Finished houses: whoever is awake makes what it can, and then all comes about that can."""

from whomay.children import children_of, refuse_crowded
from whomay.deeds import after
from whomay.errors import Never, NoMaking, NoSort, NoThing, NoWord, Stands
from whomay.growth import Growth
from whomay.makings import made_holdings
from whomay.schemes import own_list
from whomay.tables import things_of


def refuse_standing(house, holdings):
    """Refuse the first holding that the house cannot be finished without."""
    for x, word, y in holdings:
        if house.holds(x, word, y):
            raise Stands(x, word, y)


def finished_things(house, children):
    """The things of the finished house, each as (name, sort, awake)."""
    made = [(name, making.made, True) for maker, making, name in children]
    return [*things_of(house), *made]


def begin_made(growth, children):
    """Let the words of the makings stand between the children and their makers."""
    for maker, making, name in children:
        for holding in made_holdings(making, maker, name):
            growth.begin(holding, ("made", name))


def grown(house, children, kept_out):
    """The growth of the house with its children, run to its end."""
    growth = Growth(house.scheme(), finished_things(house, children))
    for holding in kept_out:
        growth.keep_out(holding)
    for holding in house.held():
        growth.begin(holding, ("held",))
    begin_made(growth, children)
    growth.run()
    return growth


class Finish:
    """The finished house of a house as it is now."""

    def __init__(self, house, without=None):
        kept_out = own_list(without)
        refuse_standing(house, kept_out)
        refuse_crowded(house)
        self.beginning = house.twin()
        children = children_of(house)
        self.names = [*house.things(), *[name for maker, making, name in children]]
        self.makes = [("make", maker, making.made, name) for maker, making, name in children]
        self.child_by_maker = {(maker, making.made): name for maker, making, name in children}
        self.growth = grown(house, children, kept_out)
        self.round_by_holding = self.growth.round_by_holding
        self.reason_by_holding = self.growth.reason_by_holding

    def things(self):
        """The names of all things, in their order."""
        return list(self.names)

    def child(self, name, sort):
        """The name of that thing's child for the sort, or None where it has none."""
        self.refuse_no_thing(name)
        if sort not in self.beginning.scheme().sorts():
            raise NoSort(sort)
        return self.child_by_maker.get((name, sort))

    def held(self):
        """All holdings, sorted."""
        return sorted(self.round_by_holding)

    def round_of(self, x, word, y):
        """The first round in which the holding stands, or None where it never does."""
        self.refuse_no_thing(x)
        self.refuse_no_thing(y)
        if word not in self.beginning.scheme().words():
            raise NoWord(word)
        return self.round_by_holding.get((x, word, y))

    def reason(self, x, word, y):
        """Why the holding stands."""
        if self.round_of(x, word, y) is None:
            raise Never(x, word, y)
        return self.reason_by_holding[(x, word, y)]

    def way(self):
        """The deeds by which the house becomes the finished one."""
        rows = sorted([(self.round_by_holding[holding], holding) for holding in self.round_by_holding])
        reasons = [self.reason_by_holding[holding] for turn, holding in rows if turn > 0]
        return [*self.makes, *[("do", rule, things) for kind, rule, things in reasons]]

    def end(self):
        """What the house becomes by its way."""
        return after(self.beginning, self.way())

    def refuse_no_thing(self, name):
        """Refuse a text that names no thing of the finished house."""
        if name not in self.names:
            raise NoThing(name)


def images(finish, deeds):
    """For each thing behind the deeds, the thing of the finished house that it is an image of."""
    image_of = {name: name for name in finish.beginning.things()}
    for deed in deeds:
        if deed[0] == "make":
            kind, maker, sort, name = deed
            if maker not in image_of:
                raise NoThing(maker)
            pair = (image_of[maker], sort)
            if pair not in finish.child_by_maker:
                raise NoMaking(image_of[maker], sort)
            image_of[name] = finish.child_by_maker[pair]
    return image_of
