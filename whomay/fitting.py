"""Things put in for the variables of a pattern."""


def thing_by_variable(pattern, things):
    """Which thing stands for which variable: the things are in the order of the variables."""
    return {variable: thing for (variable, sort), thing in zip(pattern.variables, things)}


def put_in(triple, thing_of):
    """The holding that the triple becomes with the things put in."""
    x, word, y = triple
    return (thing_of[x], word, thing_of[y])


def conditions_at(pattern, things):
    """The holdings that the conditions become at the things."""
    thing_of = thing_by_variable(pattern, things)
    return [put_in(condition, thing_of) for condition in pattern.conditions]


def given_at(rule, things):
    """The holding that the rule gives at the things."""
    return put_in(rule.gives, thing_by_variable(rule, things))


def hand_at(rule, things):
    """The thing that does the deed at the things."""
    return thing_by_variable(rule, things)[rule.by]
