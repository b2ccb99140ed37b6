"""Holdings that grow by the rules, round by round.

Each round looks only at what the round ahead of it brought: a rule that gives something new now
has a condition that did not stand before.
"""

from whomay.joins import choices, empty_spots, filling_order, numbered_triples, steps_in
from whomay.tables import Cast, Table, members


class Trail:
    """How a rule is followed from a holding that stands for one of its conditions.

    The first steps are those of that condition's variables. Behind `settled` steps it is settled
    what the rule gives, so that one filling of the others is enough.
    """

    def __init__(self, rule, steps, seeds, settled):
        self.rule_name = rule.name
        self.given = numbered_triples(rule, [rule.gives])[0]
        self.steps = steps
        self.seeds = seeds
        self.settled = settled


def trail_from(rule, place, masks, known, closed):
    """The trail of the rule from its condition at the place."""
    conditions = numbered_triples(rule, rule.conditions)
    given = numbered_triples(rule, [rule.gives])
    x, word, y = conditions[place]
    first = [x] if x == y else [x, y]
    order = filling_order(conditions, first)
    steps = steps_in(order, masks, known, conditions, closed, given)
    ends = [order.index(end) for end in (given[0][0], given[0][2])]
    return Trail(rule, steps, len(first), max(ends) + 1)


def put_seed(trail, seed, spots):
    """Fill the trail's first steps with the seed; False where it does not fit."""
    for step, number in zip(trail.steps, seed):
        if not (choices(step, spots) >> number) & 1:
            return False
        spots[step.variable] = number
    return True


class Growth:
    """Things, as (name, sort, awake), and the rounds and reasons of the holdings between them."""

    def __init__(self, scheme, things):
        self.cast = Cast(things)
        self.round_by_holding = {}
        self.reason_by_holding = {}
        self.fresh = []
        self.known = Table(scheme.words(), len(things))
        # What stands, what the round that is gone through brings, and what may never come.
        self.closed = Table(scheme.words(), len(things))
        self.trails_by_word = {word: [] for word in scheme.words()}
        for rule in scheme.rules():
            masks = self.cast.masks_to_do(rule)
            for place, (x, word, y) in enumerate(rule.conditions):
                trail = trail_from(rule, place, masks, self.known, self.closed)
                self.trails_by_word[word].append(trail)

    def keep_out(self, holding):
        """Let the holding never come about by a rule."""
        self.closed.put(self.cast.numbered(holding))

    def begin(self, holding, reason):
        """Let the holding stand in round 0."""
        self.bring(self.cast.numbered(holding), reason)

    def bring(self, triple, reason):
        """Put down what the next round brings: it does not stand yet while this one is gone through."""
        self.closed.put(triple)
        self.fresh.append(triple)
        self.reason_by_holding[self.cast.named(triple)] = reason

    def run(self):
        """Go on round by round until one brings nothing new."""
        turn = 0
        while self.fresh:
            seeds = list(self.fresh)
            self.fresh = []
            for triple in seeds:
                self.known.put(triple)
                self.round_by_holding[self.cast.named(triple)] = turn
            for triple in seeds:
                self.spread(triple)
            turn += 1

    def spread(self, triple):
        """Bring what the rules give at fillings with this holding among their conditions."""
        x, word, y = triple
        for trail in self.trails_by_word[word]:
            # A trail with one first step is that of a condition with one variable at both ends.
            if trail.seeds == 2 or x == y:
                spots = empty_spots(len(trail.steps), len(self.cast.names))
                if put_seed(trail, [x, y][:trail.seeds], spots):
                    self.follow(trail, trail.seeds, spots)

    def follow(self, trail, at, spots):
        """Bring what the trail's rule gives at all fillings from that step on; True where there is one."""
        if at == len(trail.steps):
            self.bring_by(trail, spots)
            return True
        step = trail.steps[at]
        numbers = members(choices(step, spots))
        brought = False
        for number in numbers:
            spots[step.variable] = number
            if self.follow(trail, at + 1, spots):
                brought = True
                if at >= trail.settled:
                    break
        return brought

    def bring_by(self, trail, spots):
        """Bring what the trail's rule gives at the filled spots."""
        x, word, y = trail.given
        things = tuple([self.cast.names[number] for number in spots[:-1]])
        self.bring((spots[x], word, spots[y]), ("rule", trail.rule_name, things))
