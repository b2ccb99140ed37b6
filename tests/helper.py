"""What several tests need: the refusals with their fields, names, and small schemes and houses."""

import unittest

from whomay import errors
from whomay.houses import House
from whomay.patterns import Bar, Making, Rule
from whomay.schemes import Scheme

# Each refusal of the interface with its fields, in order, and a worth for each of them.
REFUSALS = [
    ("NoName", [("name", "A b")]),
    ("BadCount", [("what", "sorts"), ("count", 5)]),
    ("Twice", [("name", "ann")]),
    ("NoVariable", [("name", "q")]),
    ("Loose", [("name", "c")]),
    ("Apart", [("place", 1)]),
    ("NoSort", [("name", "king")]),
    ("Upward", [("maker", "box"), ("made", "lord")]),
    ("NoWord", [("name", "eat")]),
    ("NoRule", [("name", "lend")]),
    ("NoBar", [("name", "both")]),
    ("NoMaking", [("maker", "lord"), ("made", "box")]),
    ("NoThing", [("name", "bob")]),
    ("Taken", [("name", "ann")]),
    ("Full", []),
    ("Asleep", [("name", "ann")]),
    ("NotHeld", [("x", "ann"), ("word", "own"), ("y", "bob")]),
    ("NoDeed", [("word", "jump")]),
    ("Misfit", [("name", "lend")]),
    ("Stands", [("x", "ann"), ("word", "own"), ("y", "bob")]),
    ("Crowded", [("count", 25)]),
    ("Never", [("x", "ann"), ("word", "own"), ("y", "bob")]),
    ("NoCure", [("x", "ann"), ("word", "own"), ("y", "bob")]),
    ("Unlike", [("what", "words")]),
    ("Freer", [("name", "lend"), ("row", ("lord", "box"))]),
    ("Barred", [("name", "both"), ("spots", ("ann", "bob")), ("deeds", [("drop", "ann", "own", "bob")])]),
    ("NoBack", []),
    ("BadRow", [("row", 3)]),
]

GOOD_NAMES = ["a", "z", "m7", "a0", "z9", "aa", "lord", "x1y2z3", "abcdefghijkl", "b23456789012"]


def bad_names():
    """Texts that are no names: too short, too long, a figure first, another sign at any place."""
    figures = "0123456789"
    texts = ["", "abcdefghijklm", "b234567890123", "a" * 40, "0", "9", "1abc", "12345", "Abcdefghijklm"]
    others = [chr(code) for code in range(32, 127)]
    others = [sign for sign in others if sign != "%" and not ("a" <= sign <= "z") and sign not in figures]
    for sign in others:
        texts.extend([sign, sign + "abc", "a" + sign + "bc", "ab" + sign + "c", "abc" + sign])
        texts.append("abcdefghijk" + sign)
    return texts


class RefusalCase(unittest.TestCase):
    """A test case that knows how refusals are to look."""

    def refused(self, kind, fields, call, *places, **named):
        """The call refuses with just this class, under the base alone, with these fields."""
        wanted = getattr(errors, kind)
        with self.assertRaises(errors.WhoError) as caught:
            call(*places, **named)
        error = caught.exception
        self.assertIs(type(error), wanted)
        self.only_under_base(error)
        names = [name for name, worth in dict(REFUSALS)[kind]]
        self.assertEqual([getattr(error, name) for name in names], list(fields))
        self.assertEqual(error.told(), "refused " + kind.lower())
        return error

    def only_under_base(self, error):
        """The error is a WhoError, a ValueError and of no other class of the refusals."""
        self.assertIsInstance(error, errors.WhoError)
        self.assertIsInstance(error, ValueError)
        kinds = [kind for kind, fields in REFUSALS if isinstance(error, getattr(errors, kind))]
        self.assertEqual(kinds, [type(error).__name__])

    def refused_in_turn(self, call, start, steps):
        """Step by step the told refusal is due, although all later ones are due as well.

        A step is (kind, fields, mending): the mending takes away just that fault.
        At the end nothing is amiss, and the call's result is told.
        """
        named = dict(start)
        for number, (kind, fields, mending) in enumerate(steps):
            with self.subTest(step=number, kind=kind, fields=fields):
                self.refused(kind, fields, call, **named)
            named.update(mending)
        return call(**named)


def lend():
    return Rule(
        "lend",
        [("a", "lord"), ("b", None), ("c", "box")],
        [("a", "own", "c"), ("a", "know", "b")],
        ("b", "use", "c"),
        "a",
    )


def both():
    return Bar("both", [("a", None), ("b", None)], [("a", "own", "b"), ("a", "use", "b")])


def box_making():
    return Making("lord", "box", ["own", "use"], [])


def small_scheme():
    """Lords, boxes and bags, with a making, a rule and a bar."""
    return Scheme(["lord", "box", "bag"], ["own", "use", "know"], [box_making()], [lend()], [both()])


def small_house():
    """Ann, bob (asleep), a box and a bag, with three holdings."""
    house = House(small_scheme())
    house.enter("bob", "lord", False)
    house.enter("ann", "lord")
    house.enter("crate", "box")
    house.enter("bag1", "bag", True)
    house.give("bob", "own", "crate")
    house.give("ann", "use", "ann")
    house.give("ann", "know", "bob")
    return house


def shown(house):
    """All that a house tells of itself, but for its scheme."""
    things = [(name, house.sort_of(name), house.is_awake(name)) for name in house.things()]
    return things, house.held(), len(house)


def told_lists(scheme):
    """All that a scheme tells of itself."""
    return [scheme.sorts(), scheme.words(), scheme.makings(), scheme.rules(), scheme.bars()]
