"""Houses: things of a scheme's sorts, and which words they hold over one another."""

from whomay.errors import Full, NoSort, NotHeld, NoThing, NoWord, Taken
from whomay.names import refuse_no_name

MOST_THINGS = 60


class House:
    """Things in the order in which they came, awake or asleep, and their holdings."""

    def __init__(self, scheme):
        self.own_scheme = scheme
        self.sort_by_name = {}
        self.awake_by_name = {}
        self.standing = {}

    def __len__(self):
        return len(self.sort_by_name)

    def enter(self, name, sort, awake=True):
        """Let a new thing in, behind the others."""
        refuse_no_name([name])
        if name in self.sort_by_name:
            raise Taken(name)
        if sort not in self.own_scheme.sorts():
            raise NoSort(sort)
        if len(self.sort_by_name) >= MOST_THINGS:
            raise Full()
        self.sort_by_name[name] = sort
        self.awake_by_name[name] = awake

    def give(self, x, word, y):
        """Let the holding stand from now on."""
        self.refuse_strange(x, word, y)
        self.standing[(x, word, y)] = True

    def take(self, x, word, y):
        """Let the holding stand no longer."""
        self.refuse_strange(x, word, y)
        if (x, word, y) not in self.standing:
            raise NotHeld(x, word, y)
        del self.standing[(x, word, y)]

    def wake(self, x):
        """Let the thing be awake from now on."""
        self.refuse_no_thing(x)
        self.awake_by_name[x] = True

    def sleep(self, x):
        """Let the thing be asleep from now on."""
        self.refuse_no_thing(x)
        self.awake_by_name[x] = False

    def things(self):
        """The names of the things, in the order in which they came."""
        return list(self.sort_by_name)

    def sort_of(self, x):
        """The sort of the thing."""
        self.refuse_no_thing(x)
        return self.sort_by_name[x]

    def is_awake(self, x):
        """True where the thing is awake."""
        self.refuse_no_thing(x)
        return self.awake_by_name[x]

    def holds(self, x, word, y):
        """True where the holding stands."""
        self.refuse_strange(x, word, y)
        return (x, word, y) in self.standing

    def held(self):
        """The holdings, sorted."""
        return sorted(self.standing)

    def scheme(self):
        """The scheme that the house was made with."""
        return self.own_scheme

    def twin(self):
        """Another house of the same scheme, things and holdings."""
        return self.moved_to(self.own_scheme)

    def moved_to(self, scheme):
        """A house of that scheme, which has the same sorts and words, with the same things and holdings."""
        other = House(scheme)
        other.sort_by_name = {name: self.sort_by_name[name] for name in self.sort_by_name}
        other.awake_by_name = {name: self.awake_by_name[name] for name in self.awake_by_name}
        other.standing = {holding: True for holding in self.standing}
        return other

    def refuse_no_thing(self, name):
        """Refuse a text that names no thing of the house."""
        if name not in self.sort_by_name:
            raise NoThing(name)

    def refuse_strange(self, x, word, y):
        """Refuse a holding of which the house or its scheme lacks a part."""
        self.refuse_no_thing(x)
        self.refuse_no_thing(y)
        if word not in self.own_scheme.words():
            raise NoWord(word)
