"""What several tests need: the refusals with their fields, names, small schemes and houses,
schemes and houses by lot, and plain reckonings, by trying everything, against which the program is held.
"""

import itertools
import unittest

from whomay import errors
from whomay.errors import WhoError
from whomay.houses import House
from whomay.patterns import Bar, Making, Rule
from whomay.schemes import Scheme

# Each refusal of the interface with its fields, in order, and a worth for each of them.
REFUSALS = [
    ("NoName", [("name", "A b")]),
    ("BadCount", [("what", "sorts"), ("count", 5)]),
    ("Twice", [("name", "ann")]),
    ("NoVariable", [("name", "q")]),
    ("Loose", [("name", "c")]),
    ("Apart", [("place", 1)]),
    ("NoSort", [("name", "king")]),
    ("Upward", [("maker", "box"), ("made", "lord")]),
    ("NoWord", [("name", "eat")]),
    ("NoRule", [("name", "lend")]),
    ("NoBar", [("name", "both")]),
    ("NoMaking", [("maker", "lord"), ("made", "box")]),
    ("NoThing", [("name", "bob")]),
    ("Taken", [("name", "ann")]),
    ("Full", []),
    ("Asleep", [("name", "ann")]),
    ("NotHeld", [("x", "ann"), ("word", "own"), ("y", "bob")]),
    ("NoDeed", [("word", "jump")]),
    ("Misfit", [("name", "lend")]),
    ("Stands", [("x", "ann"), ("word", "own"), ("y", "bob")]),
    ("Crowded", [("count", 25)]),
    ("Never", [("x", "ann"), ("word", "own"), ("y", "bob")]),
    ("NoCure", [("x", "ann"), ("word", "own"), ("y", "bob")]),
    ("Unlike", [("what", "words")]),
    ("Freer", [("name", "lend"), ("row", ("lord", "box"))]),
    ("Barred", [("name", "both"), ("spots", ("ann", "bob")), ("deeds", [("drop", "ann", "own", "bob")])]),
    ("NoBack", []),
    ("BadRow", [("row", 3)]),
]

SORTS = ["lord", "box", "bag"]
WORDS = ["own", "use", "know"]

GOOD_NAMES = ["a", "z", "m7", "a0", "z9", "aa", "lord", "x1y2z3", "abcdefghijkl", "b23456789012"]


def bad_names():
    """Texts that are no names: too short, too long, a figure first, another sign at any place."""
    figures = "0123456789"
    texts = ["", "abcdefghijklm", "b234567890123", "a" * 40, "0", "9", "1abc", "12345", "Abcdefghijklm"]
    others = [chr(code) for code in range(32, 127)]
    others = [sign for sign in others if sign != "%" and not ("a" <= sign <= "z") and sign not in figures]
    for sign in others:
        texts.extend([sign, sign + "abc", "a" + sign + "bc", "ab" + sign + "c", "abc" + sign])
        texts.append("abcdefghijk" + sign)
    return texts


class RefusalCase(unittest.TestCase):
    """A test case that knows how refusals are to look."""

    def refused(self, kind, fields, call, *places, **named):
        """The call refuses with just this class, under the base alone, with these fields."""
        wanted = getattr(errors, kind)
        with self.assertRaises(errors.WhoError) as caught:
            call(*places, **named)
        error = caught.exception
        self.assertIs(type(error), wanted)
        self.only_under_base(error)
        names = [name for name, worth in dict(REFUSALS)[kind]]
        self.assertEqual([getattr(error, name) for name in names], list(fields))
        self.assertEqual(error.told(), "refused " + kind.lower())
        return error

    def only_under_base(self, error):
        """The error is a WhoError, a ValueError and of no other class of the refusals."""
        self.assertIsInstance(error, errors.WhoError)
        self.assertIsInstance(error, ValueError)
        kinds = [kind for kind, fields in REFUSALS if isinstance(error, getattr(errors, kind))]
        self.assertEqual(kinds, [type(error).__name__])

    def refused_in_turn(self, call, start, steps):
        """Step by step the told refusal is due, although all later ones are due as well.

        A step is (kind, fields, mending): the mending takes away just that fault.
        At the end nothing is amiss, and the call's result is told.
        """
        named = dict(start)
        for number, (kind, fields, mending) in enumerate(steps):
            with self.subTest(step=number, kind=kind, fields=fields):
                self.refused(kind, fields, call, **named)
            named.update(mending)
        return call(**named)


def lend():
    return Rule(
        "lend",
        [("a", "lord"), ("b", None), ("c", "box")],
        [("a", "own", "c"), ("a", "know", "b")],
        ("b", "use", "c"),
        "a",
    )


def both():
    return Bar("both", [("a", None), ("b", None)], [("a", "own", "b"), ("a", "use", "b")])


def box_making():
    return Making("lord", "box", ["own", "use"], [])


def small_scheme():
    """Lords, boxes and bags, with a making, a rule and a bar."""
    return Scheme(["lord", "box", "bag"], ["own", "use", "know"], [box_making()], [lend()], [both()])


def small_house():
    """Ann, bob (asleep), a box and a bag, with three holdings."""
    house = House(small_scheme())
    house.enter("bob", "lord", False)
    house.enter("ann", "lord")
    house.enter("crate", "box")
    house.enter("bag1", "bag", True)
    house.give("bob", "own", "crate")
    house.give("ann", "use", "ann")
    house.give("ann", "know", "bob")
    return house


def shown(house):
    """All that a house tells of itself, but for its scheme."""
    return things_with_sorts(house), house.held(), len(house)


def told_lists(scheme):
    """All that a scheme tells of itself."""
    return [scheme.sorts(), scheme.words(), scheme.makings(), scheme.rules(), scheme.bars()]


def rule_of(name, variables, conditions, gives, by):
    """A rule from texts: "a b:box", "a own b, b use a", "a use a", "a"."""
    return Rule(name, variables_of(variables), triples_of(conditions), triples_of(gives)[0], by)


def bar_of(name, variables, conditions):
    return Bar(name, variables_of(variables), triples_of(conditions))


def variables_of(text):
    pairs = [part.partition(":") for part in text.split()]
    return [(name, sort or None) for name, colon, sort in pairs]


def triples_of(text):
    return [tuple(part.split()) for part in text.split(",")]


def house_of(scheme, things, held=""):
    """A house from texts: "ann:lord -bob:lord" (bob asleep), "ann own bob, bob use ann"."""
    house = House(scheme)
    for part in things.split():
        name, colon, sort = part.lstrip("-").partition(":")
        house.enter(name, sort, not part.startswith("-"))
    for x, word, y in triples_of(held) if held else []:
        house.give(x, word, y)
    return house


def things_with_sorts(house):
    return [(name, house.sort_of(name), house.is_awake(name)) for name in house.things()]


def at(pattern, things):
    """The holdings that the conditions become with the things put in, and what is given, if anything."""
    put = dict(zip([name for name, sort in pattern.variables], things))
    conditions = [(put[x], word, put[y]) for x, word, y in pattern.conditions]
    gives = getattr(pattern, "gives", None)
    return conditions, gives and (put[gives[0]], gives[1], put[gives[2]])


def plain_matches(things, held, pattern):
    """All tuples of names at which the pattern stands, by trying each."""
    held = set(held)
    found = []
    for row in itertools.product(things, repeat=len(pattern.variables)):
        fits = all(want in (None, sort) for (name, sort, awake), (variable, want) in zip(row, pattern.variables))
        names = tuple(name for name, sort, awake in row)
        if fits and all(condition in held for condition in at(pattern, names)[0]):
            found.append(names)
    return sorted(found)


def plain_doable(things, held, rule):
    """Those of the matches at which the hand is awake, each with what the rule gives there."""
    awake = {name: awake for name, sort, awake in things}
    place = [name for name, sort in rule.variables].index(rule.by)
    rows = [names for names in plain_matches(things, held, rule) if awake[names[place]]]
    return [(names, at(rule, names)[1]) for names in rows]


def plain_open(house):
    """All deeds by rules that bring about something new, by trying."""
    things, held = things_with_sorts(house), house.held()
    deeds = []
    for rule in house.scheme().rules():
        rows = plain_doable(things, held, rule)
        deeds.extend(("do", rule.name, names) for names, given in rows if given not in held)
    return sorted(deeds)


def plain_children(house):
    """The made things, in their order, each as (maker, making, name)."""
    rows = things_with_sorts(house)
    children = []
    done = 0
    while done < len(rows):
        maker, maker_sort, awake = rows[done]
        done += 1
        for making in house.scheme().makings():
            if awake and making.maker == maker_sort:
                taken = {name for name, sort, awake in rows}
                name = next("m" + str(number) for number in range(1, 999) if "m" + str(number) not in taken)
                rows.append((name, making.made, True))
                children.append((maker, making, name))
    return children


def plain_rounds(house, without=()):
    """The rounds of all holdings of the finished house, as point 21 tells them."""
    children = plain_children(house)
    things = things_with_sorts(house) + [(name, making.made, True) for maker, making, name in children]
    rounds = {holding: 0 for holding in house.held()}
    for maker, making, name in children:
        rounds.update({(maker, word, name): 0 for word in making.down})
        rounds.update({(name, word, maker): 0 for word in making.up})
    number = 0
    while True:
        number += 1
        new = set()
        for rule in house.scheme().rules():
            new.update(given for names, given in plain_doable(things, rounds, rule))
        new -= set(rounds) | set(without)
        if not new:
            return rounds
        rounds.update({holding: number for holding in new})


def passing_over(house, deeds, play):
    """What the house becomes by the deeds, those that are refused passed over."""
    later = house.twin()
    for deed in deeds:
        try:
            play(later, deed)
        except WhoError:
            pass
    return later


def all_deeds(house, new_name):
    """All deeds from inside that could be thought of; the names of made things are that one."""
    names = house.things()
    deeds = [("make", maker, sort, new_name) for maker in names for sort in house.scheme().sorts()]
    for rule in house.scheme().rules():
        rows = plain_matches(things_with_sorts(house), house.held(), rule)
        deeds.extend(("do", rule.name, row) for row in rows)
    deeds.extend(("drop", x, word, y) for x, word, y in house.held())
    return deeds


def rule_by_lot(lot, name, sorts, words, many_variables, many_conditions):
    names = list("abcd")[:many_variables]
    while True:
        variables = [(variable, lot.choice([None] * 9 + sorts)) for variable in names]
        conditions = [(lot.choice(names), lot.choice(words), lot.choice(names)) for _ in range(many_conditions)]
        gives = (lot.choice(names), lot.choice(words), lot.choice(names))
        try:
            return Rule(name, variables, conditions, gives, lot.choice(names))
        except WhoError:
            continue


def scheme_by_lot(lot, most_rules=6, makings=True):
    rows = []
    for maker, made in itertools.combinations(SORTS, 2):
        if makings and lot.random() < 0.6:
            rows.append(Making(maker, made, lot.sample(WORDS, lot.randint(0, 2)), lot.sample(WORDS, lot.randint(0, 1))))
    lot.shuffle(rows)
    rules = []
    for number in range(lot.randint(2, most_rules)):
        many_conditions = lot.choice([1, 2, 2, 3])
        many_variables = min(lot.choice([1, 2, 2, 3, 3, 3]), many_conditions + 1)
        rules.append(rule_by_lot(lot, "r" + str(number), SORTS, WORDS, many_variables, many_conditions))
    return Scheme(SORTS, WORDS, rows, rules)


def house_by_lot(lot, scheme, most_things=4, many_held=6):
    house = House(scheme)
    names = ["ann", "bob", "m1", "cat", "m2", "zed"]
    lot.shuffle(names)
    for name in names[:lot.randint(2, most_things)]:
        house.enter(name, lot.choice(SORTS), lot.random() < 0.75)
    for _ in range(lot.randint(many_held // 3, many_held)):
        house.give(lot.choice(house.things()), lot.choice(WORDS), lot.choice(house.things()))
    return house


def all_triples(names, words):
    return [(x, word, y) for x in names for word in words for y in names]


def made_scheme():
    """The document's example: a lord makes a box and a bag, a box makes a bag."""
    makings = [
        Making("lord", "box", ["own", "use"], []),
        Making("box", "bag", ["own"], ["know"]),
        Making("lord", "bag", [], ["know"]),
    ]
    rules = [
        rule_of("pass", "a b c", "a own b, b own c", "a own c", "a"),
        rule_of("lend", "a:lord b:lord c:box", "a own c, a know b", "b use c", "a"),
        rule_of("greet", "a:lord b:lord", "a know b", "b know a", "b"),
    ]
    return Scheme(["lord", "box", "bag"], ["own", "use", "know"], makings, rules)


def made_house():
    return house_of(made_scheme(), "ann:lord -bob:lord", "ann know bob")


def line_scheme():
    """One sort; whoever is linked onward reaches on, step by step."""
    rules = [
        rule_of("first", "a b", "a next b", "a far b", "a"),
        rule_of("on", "a b c", "a far b, b next c", "a far c", "a"),
    ]
    return Scheme(["s"], ["next", "far"], None, rules)


def line_house():
    return house_of(line_scheme(), "a:s b:s c:s d:s e:s", "a next b, b next c, c next d, d next e")


def full_makings():
    """All makings that four sorts can have: a thing of the highest makes seven in all."""
    sorts = ["s0", "s1", "s2", "s3"]
    return Scheme(sorts, ["own"], [Making(one, other, ["own"], []) for one, other in itertools.combinations(sorts, 2)])


def many_of(scheme, sort, many, asleep=0):
    house = House(scheme)
    for number in range(many):
        house.enter("t" + str(number), sort, number >= asleep)
    return house


def all_told(finish):
    """All that a finish tells."""
    holdings = finish.held()
    return (
        finish.things(), holdings, [finish.round_of(*holding) for holding in holdings],
        [finish.reason(*holding) for holding in holdings], finish.way(), shown(finish.end()),
    )


def few_words_by_lot(lot, most_rules=4):
    """A scheme of two sorts and two words, whose rules often follow from one another."""
    sorts, words = ["lord", "box"], ["own", "use"]
    makings = [Making("lord", "box", lot.sample(words, lot.randint(0, 2)), lot.sample(words, lot.randint(0, 1)))]
    rules = []
    for number in range(lot.randint(1, most_rules)):
        many = lot.choice([1, 1, 2, 2, 3])
        rules.append(rule_by_lot(lot, "r" + str(number), sorts, words, min(lot.choice([1, 2, 2, 3]), many + 1), many))
    return Scheme(sorts, words, makings[:lot.randint(0, 1)], rules)


def with_rules(scheme, rules):
    return Scheme(scheme.sorts(), scheme.words(), scheme.makings(), rules, scheme.bars())


def pair_by_lot(lot):
    """Two schemes alike but for their rules, some of which both have."""
    one, other = few_words_by_lot(lot), few_words_by_lot(lot)
    rules = {rule.name: rule for rule in one.rules() + other.rules()}
    kept = [rules[name] for name in sorted(rules)]
    return with_rules(one, lot.sample(one.rules(), lot.randint(1, len(one.rules())))), with_rules(one, kept)


def few_words_house_by_lot(lot, scheme, many_held=4):
    house = House(scheme)
    for name in ["ann", "bob", "cat"][:lot.randint(1, 3)]:
        house.enter(name, lot.choice(scheme.sorts()), lot.random() < 0.7)
    for number in range(lot.randint(1, many_held)):
        house.give(lot.choice(house.things()), lot.choice(scheme.words()), lot.choice(house.things()))
    return house


def moved(house, scheme):
    later = House(scheme)
    for name in house.things():
        later.enter(name, house.sort_of(name), house.is_awake(name))
    for holding in house.held():
        later.give(*holding)
    return later


def played_by_lot(lot, house, play, many=12):
    """Some deeds that the house plays, one behind the other; what is made is called n0, n1 or m1, m2 and so on."""
    later = house.twin()
    deeds = []
    for number in range(many):
        letter = lot.choice("nm")
        deed = lot.choice(all_deeds(later, letter + str(number)) or [("jump",)])
        try:
            play(later, deed)
        except WhoError:
            continue
        deeds.append(deed)
    return deeds
