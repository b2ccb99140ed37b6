"""Keepers, which let no change be done that could ever lead to a bar."""

from whomay.children import refuse_crowded
from whomay.deeds import after
from whomay.errors import Barred, NoBack
from whomay.finish import Finish
from whomay.fitting import conditions_at
from whomay.houses import House
from whomay.matching import one_match
from whomay.ways import deeds_for


def refuse_barred(house):
    """Refuse a house in which a bar of its scheme could ever come to stand."""
    scheme = house.scheme()
    if not scheme.bars():
        return
    finish = Finish(house)
    for bar in scheme.bars():
        # Wherever the bar could stand, it stands in the finished house at the images of those things.
        spots = one_match(finish.growth.cast, finish.growth.known, bar)
        if spots is not None:
            raise Barred(bar.name, spots, deeds_for(scheme, finish, conditions_at(bar, spots)))


class Keeper:
    """A scheme and a house of it, with the changes that can be taken back."""

    def __init__(self, scheme):
        # A house that is kept here is never changed: each change puts another one in its place.
        self.own_house = House(scheme)
        self.past = []

    def house(self):
        """A twin of the house."""
        return self.own_house.twin()

    def scheme(self):
        """The scheme as it is now."""
        return self.own_house.scheme()

    def many(self):
        """How many changes can be taken back."""
        return len(self.past)

    def back(self):
        """Take back the last change that is not taken back yet."""
        if not self.past:
            raise NoBack()
        self.own_house = self.past.pop()

    def go_on(self, later):
        """Let the later house be the house from now on."""
        self.past.append(self.own_house)
        self.own_house = later

    def go_on_if_safe(self, later):
        """As go_on, but first look ahead at what could come of it."""
        refuse_crowded(later)
        refuse_barred(later)
        self.go_on(later)

    def enter(self, name, sort, awake=True):
        """Let a new thing in."""
        later = self.house()
        later.enter(name, sort, awake)
        self.go_on_if_safe(later)

    def give(self, x, word, y):
        """Let the holding stand."""
        later = self.house()
        later.give(x, word, y)
        self.go_on_if_safe(later)

    def take(self, x, word, y):
        """Let the holding stand no longer."""
        later = self.house()
        later.take(x, word, y)
        self.go_on(later)

    def wake(self, x):
        """Let the thing be awake."""
        later = self.house()
        later.wake(x)
        self.go_on_if_safe(later)

    def sleep(self, x):
        """Let the thing be asleep."""
        later = self.house()
        later.sleep(x)
        self.go_on(later)

    def add_rule(self, rule):
        """Put the rule behind the others."""
        self.go_on_if_safe(self.own_house.moved_to(self.scheme().with_rule(rule)))

    def add_bar(self, bar):
        """Put the bar behind the others."""
        self.go_on_if_safe(self.own_house.moved_to(self.scheme().with_bar(bar)))

    def add_making(self, making):
        """Put the making behind the others."""
        self.go_on_if_safe(self.own_house.moved_to(self.scheme().with_making(making)))

    def drop_rule(self, name):
        """Leave the rule of that name out."""
        self.go_on(self.own_house.moved_to(self.scheme().without_rule(name)))

    def drop_bar(self, name):
        """Leave the bar of that name out."""
        self.go_on(self.own_house.moved_to(self.scheme().without_bar(name)))

    def drop_making(self, maker, made):
        """Leave the making from the one sort to the other out."""
        self.go_on(self.own_house.moved_to(self.scheme().without_making(maker, made)))

    def play(self, deed):
        """Let a deed from inside be done."""
        self.go_on(after(self.own_house, [deed]))
