"""Things by number, and holdings between them as masks, so that one step looks at many things at once.

A mask is a whole number whose bits stand for things: bit 0 for the thing of number 0, and so on.
"""


def members(mask):
    """The numbers whose bits stand in the mask, from the least up."""
    numbers = []
    while mask:
        lowest = mask & -mask
        numbers.append(lowest.bit_length() - 1)
        mask ^= lowest
    return numbers


def things_of(house):
    """The things of a house, each as (name, sort, awake)."""
    return [(name, house.sort_of(name), house.is_awake(name)) for name in house.things()]


class Cast:
    """Things by number, with the masks of those that fit a variable.

    It is made of things as (name, sort, awake).
    """

    def __init__(self, things):
        self.names = [name for name, sort, awake in things]
        self.number_by_name = {name: number for number, name in enumerate(self.names)}
        self.everyone = (1 << len(things)) - 1
        self.awake_ones = 0
        self.mask_by_sort = {sort: 0 for name, sort, awake in things}
        for number, (name, sort, awake) in enumerate(things):
            self.mask_by_sort[sort] |= 1 << number
            if awake:
                self.awake_ones |= 1 << number

    def numbered(self, holding):
        """The holding with numbers for its things."""
        x, word, y = holding
        return (self.number_by_name[x], word, self.number_by_name[y])

    def named(self, holding):
        """The holding with names for its numbers."""
        x, word, y = holding
        return (self.names[x], word, self.names[y])

    def fitting(self, sort):
        """The mask of the things that may stand for a variable of the sort, or of None."""
        if sort is None:
            return self.everyone
        return self.mask_by_sort.get(sort, 0)

    def masks_for(self, pattern):
        """For each variable of the pattern, the mask of the things of its sort."""
        return [self.fitting(sort) for variable, sort in pattern.variables]

    def masks_to_do(self, rule):
        """As masks_for, but the thing for the hand has to be awake."""
        masks = self.masks_for(rule)
        place = [variable for variable, sort in rule.variables].index(rule.by)
        masks[place] &= self.awake_ones
        return masks


class Table:
    """For each word and each thing, the mask of those it is held over, and of those that hold it."""

    def __init__(self, words, size):
        # The row behind those of the things is the mask of those that hold the word over
        # themselves: so a triple with one variable at both ends is asked like any other.
        self.over = {word: [0] * (size + 1) for word in words}
        self.under = {word: [0] * (size + 1) for word in words}

    def put(self, holding):
        """Let the holding, of numbers, stand."""
        x, word, y = holding
        self.over[word][x] |= 1 << y
        self.under[word][y] |= 1 << x
        if x == y:
            self.over[word][-1] |= 1 << x

    def drop(self, holding):
        """Let the holding, of numbers, stand no longer."""
        x, word, y = holding
        self.over[word][x] &= ~(1 << y)
        self.under[word][y] &= ~(1 << x)
        if x == y:
            self.over[word][-1] &= ~(1 << x)
