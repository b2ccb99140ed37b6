"""Schemes: sorts, words, makings, rules and bars, never changed."""

from whomay.errors import NoBar, NoMaking, NoRule, NoSort, NoWord, Twice, Upward
from whomay.names import first_twice, refuse_count, refuse_no_name, refuse_twice

MOST_SORTS = 4
MOST_WORDS = 5
MOST_RULES = 8
MOST_BARS = 4


def own_list(rows):
    """A list of one's own; what is left out is none."""
    if rows is None:
        return []
    return list(rows)


def refuse_makings_twice(makings):
    """Refuse the first making between two sorts that have one already."""
    pairs = [(making.maker, making.made) for making in makings]
    place = first_twice(pairs)
    if place is not None:
        raise Twice(makings[place].maker)


def refuse_no_sort(sorts, makings, patterns):
    """Refuse the first sort of a making or a variable that is none of the sorts."""
    asked = []
    for making in makings:
        asked.extend([making.maker, making.made])
    for pattern in patterns:
        asked.extend([sort for variable, sort in pattern.variables if sort is not None])
    for name in asked:
        if name not in sorts:
            raise NoSort(name)


def refuse_upward(sorts, makings):
    """Refuse the first making that does not go down: so makings never go round."""
    for making in makings:
        if sorts.index(making.made) <= sorts.index(making.maker):
            raise Upward(making.maker, making.made)


def refuse_no_word(words, makings, rules, bars):
    """Refuse the first word of a making, a rule or a bar that is none of the words."""
    asked = []
    for making in makings:
        asked.extend([*making.down, *making.up])
    for rule in rules:
        asked.extend([word for x, word, y in [*rule.conditions, rule.gives]])
    for bar in bars:
        asked.extend([word for x, word, y in bar.conditions])
    for name in asked:
        if name not in words:
            raise NoWord(name)


def check_scheme(sorts, words, makings, rules, bars):
    """Refuse a scheme by the first refusal that is due."""
    refuse_count("sorts", len(sorts), 1, MOST_SORTS)
    refuse_count("words", len(words), 1, MOST_WORDS)
    refuse_count("rules", len(rules), 0, MOST_RULES)
    refuse_count("bars", len(bars), 0, MOST_BARS)
    refuse_no_name(sorts)
    refuse_no_name(words)
    refuse_twice(sorts)
    refuse_twice(words)
    refuse_makings_twice(makings)
    refuse_twice([rule.name for rule in rules])
    refuse_twice([bar.name for bar in bars])
    refuse_no_sort(sorts, makings, [*rules, *bars])
    refuse_upward(sorts, makings)
    refuse_no_word(words, makings, rules, bars)


class Scheme:
    """By which deeds things come to hold words over things."""

    def __init__(self, sorts, words, makings=None, rules=None, bars=None):
        self.own_sorts = list(sorts)
        self.own_words = list(words)
        self.own_makings = own_list(makings)
        self.own_rules = own_list(rules)
        self.own_bars = own_list(bars)
        check_scheme(self.own_sorts, self.own_words, self.own_makings, self.own_rules, self.own_bars)

    def sorts(self):
        """The sorts, from the highest down."""
        return list(self.own_sorts)

    def words(self):
        """The words."""
        return list(self.own_words)

    def makings(self):
        """The makings."""
        return list(self.own_makings)

    def rules(self):
        """The rules."""
        return list(self.own_rules)

    def bars(self):
        """The bars."""
        return list(self.own_bars)

    def rule(self, name):
        """The rule of that name."""
        for rule in self.own_rules:
            if rule.name == name:
                return rule
        raise NoRule(name)

    def bar(self, name):
        """The bar of that name."""
        for bar in self.own_bars:
            if bar.name == name:
                return bar
        raise NoBar(name)

    def with_rule(self, rule):
        """A scheme with this rule behind the others."""
        return Scheme(self.own_sorts, self.own_words, self.own_makings, [*self.own_rules, rule], self.own_bars)

    def with_bar(self, bar):
        """A scheme with this bar behind the others."""
        return Scheme(self.own_sorts, self.own_words, self.own_makings, self.own_rules, [*self.own_bars, bar])

    def with_making(self, making):
        """A scheme with this making behind the others."""
        return Scheme(self.own_sorts, self.own_words, [*self.own_makings, making], self.own_rules, self.own_bars)

    def without_rule(self, name):
        """A scheme without the rule of that name."""
        rules = [rule for rule in self.own_rules if rule.name != name]
        if len(rules) == len(self.own_rules):
            raise NoRule(name)
        return Scheme(self.own_sorts, self.own_words, self.own_makings, rules, self.own_bars)

    def without_bar(self, name):
        """A scheme without the bar of that name."""
        bars = [bar for bar in self.own_bars if bar.name != name]
        if len(bars) == len(self.own_bars):
            raise NoBar(name)
        return Scheme(self.own_sorts, self.own_words, self.own_makings, self.own_rules, bars)

    def without_making(self, maker, made):
        """A scheme without the making from the one sort to the other."""
        makings = [making for making in self.own_makings if (making.maker, making.made) != (maker, made)]
        if len(makings) == len(self.own_makings):
            raise NoMaking(maker, made)
        return Scheme(self.own_sorts, self.own_words, makings, self.own_rules, self.own_bars)
