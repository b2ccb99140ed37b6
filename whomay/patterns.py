"""Rules, bars and makings, none of which is ever changed."""

from whomay.errors import Apart, Loose, NoVariable
from whomay.names import refuse_count, refuse_no_name, refuse_twice

MOST_VARIABLES = 4
MOST_CONDITIONS = 3


def tuple_of_tuples(rows):
    """The rows as a tuple of tuples, so that no list of the asker's is kept."""
    return tuple([tuple(row) for row in rows])


def ends_of(triples):
    """The first and the third part of each triple, in their order."""
    return [end for x, word, y in triples for end in (x, y)]


def texts_of_pattern(name, variables, triples):
    """The texts of a pattern that have to be names, in the order in which they are looked at."""
    texts = [name]
    for variable, sort in variables:
        texts.append(variable)
        if sort is not None:
            texts.append(sort)
    texts.extend([word for x, word, y in triples])
    return texts


def refuse_no_variable(names, texts):
    """Refuse the first of the texts that is none of the variables' names."""
    for text in texts:
        if text not in names:
            raise NoVariable(text)


def refuse_loose(names, conditions):
    """Refuse the first variable that stands in no condition."""
    tied = ends_of(conditions)
    for name in names:
        if name not in tied:
            raise Loose(name)


def refuse_apart(conditions):
    """Refuse the first condition that hangs on none ahead of it."""
    for place, (x, word, y) in enumerate(conditions):
        ahead = ends_of(conditions[:place])
        # The first condition has none ahead of it that it could hang on.
        if place > 0 and x not in ahead and y not in ahead:
            raise Apart(place)


def check_pattern(name, variables, conditions, given, hands):
    """Refuse a pattern by the first refusal that is due.

    A rule has one triple that is given and one hand, a bar has none of either:
    so one order of refusals serves for both.
    """
    refuse_count("variables", len(variables), 1, MOST_VARIABLES)
    refuse_count("conditions", len(conditions), 1, MOST_CONDITIONS)
    triples = [*conditions, *given]
    refuse_no_name(texts_of_pattern(name, variables, triples))
    names = [variable for variable, sort in variables]
    refuse_twice(names)
    refuse_no_variable(names, [*ends_of(triples), *hands])
    refuse_loose(names, conditions)
    refuse_apart(conditions)


def variable_part(name, sort):
    """The part of a row of text that stands for a variable."""
    if sort is None:
        return name
    return f"{name}:{sort}"


def pattern_parts(kind, pattern):
    """The parts of a row of text that rules and bars have alike."""
    parts = [kind, pattern.name]
    parts.extend([variable_part(name, sort) for name, sort in pattern.variables])
    for condition in pattern.conditions:
        parts.extend(["|", *condition])
    return parts


def rule_parts(rule):
    """The parts of a rule's row of text."""
    return [*pattern_parts("rule", rule), ">", *rule.gives, "by", rule.by]


def making_parts(making):
    """The parts of a making's row of text."""
    return ["making", making.maker, making.made, ">", *making.down, "<", *making.up]


class Bar:
    """A pattern that is never to stand."""

    def __init__(self, name, variables, conditions):
        self.name = name
        self.variables = tuple_of_tuples(variables)
        self.conditions = tuple_of_tuples(conditions)
        check_pattern(name, self.variables, self.conditions, [], [])

    def __eq__(self, other):
        return (
            isinstance(other, Bar)
            and self.name == other.name
            and self.variables == other.variables
            and self.conditions == other.conditions
        )

    def __str__(self):
        return " ".join(pattern_parts("bar", self))


class Rule:
    """A pattern with what it gives and the hand that does the deed."""

    def __init__(self, name, variables, conditions, gives, by):
        self.name = name
        self.variables = tuple_of_tuples(variables)
        self.conditions = tuple_of_tuples(conditions)
        self.gives = tuple(gives)
        self.by = by
        check_pattern(name, self.variables, self.conditions, [self.gives], [by])

    def __eq__(self, other):
        return (
            isinstance(other, Rule)
            and self.name == other.name
            and self.variables == other.variables
            and self.conditions == other.conditions
            and self.gives == other.gives
            and self.by == other.by
        )

    def __str__(self):
        return " ".join(rule_parts(self))


class Making:
    """Which sort can make which, and the words that come with what is made."""

    def __init__(self, maker, made, down, up):
        self.maker = maker
        self.made = made
        self.down = tuple(down)
        self.up = tuple(up)
        refuse_no_name([maker, made, *self.down, *self.up])
        refuse_twice(self.down)
        refuse_twice(self.up)

    def __eq__(self, other):
        return (
            isinstance(other, Making)
            and self.maker == other.maker
            and self.made == other.made
            and self.down == other.down
            and self.up == other.up
        )

    def __str__(self):
        return " ".join(making_parts(self))
