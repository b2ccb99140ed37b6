"""Papers (points 30 to 32)."""

import itertools
import random
import unittest

from tests.helper import (
    RefusalCase, all_triples, at, full_makings, house_by_lot, house_of, made_house, made_scheme, many_of,
    plain_children, plain_doable, plain_rounds, played_by_lot, rule_of, scheme_by_lot, shown, small_house,
    things_with_sorts, told_lists,
)
from whomay.deeds import after, play
from whomay.houses import House
from whomay.papers import brings, fault, keeps_out, paper_of
from whomay.patterns import Making
from whomay.schemes import Scheme
from whomay.ways import how, may

KINDS = ["things", "twice", "strange", "child", "held", "word", "rule"]


def plain_paper(house):
    made = [(name, making.made, True, maker) for maker, making, name in plain_children(house)]
    own = [(name, sort, awake, None) for name, sort, awake in things_with_sorts(house)]
    return own + made, sorted(plain_rounds(house))


def plain_child(things, maker, sort):
    found = [row[0] for row in things if row[1:] == (sort, True, maker)]
    return found[0] if found else None


def plain_things_fault(house, things):
    own = [(name, sort, awake, None) for name, sort, awake in things_with_sorts(house)]
    if things[:len(own)] != own or any(row[3] is None for row in things[len(own):]):
        return ("things",)
    for place, row in enumerate(things):
        if row[0] in [each[0] for each in things[:place]]:
            return ("twice", row[0])
    return None


def plain_word_fault(house, things, held):
    for name, sort, awake, maker in things:
        for making in house.scheme().makings():
            if awake and making.maker == sort:
                child = plain_child(things, name, making.made)
                rows = [(name, word, child) for word in making.down] + [(child, word, name) for word in making.up]
                for row in rows:
                    if row not in held:
                        return ("word",) + row
    return None


def plain_rule_fault(house, things, held):
    rows = [(name, sort, awake) for name, sort, awake, maker in things]
    for rule in house.scheme().rules():
        for names, given in sorted(plain_doable(rows, held, rule)):
            if given not in held:
                return ("rule", rule.name, names)
    return None


def plain_fault(house, paper):
    """What is amiss, by the words of point 31."""
    things, held = paper
    found = plain_things_fault(house, things)
    if found:
        return found
    names = [row[0] for row in things]
    for x, word, y in held:
        if x not in names or y not in names or word not in house.scheme().words():
            return ("strange", x, word, y)
    for name, sort, awake, maker in things:
        for making in house.scheme().makings():
            if awake and making.maker == sort and plain_child(things, name, making.made) is None:
                return ("child", name, making.made)
    for holding in house.held():
        if holding not in held:
            return ("held",) + holding
    return plain_word_fault(house, things, held) or plain_rule_fault(house, things, held)


def wide_house():
    """Three lords and a box, so that each kind of fault has a first, a middle and a last place."""
    return house_of(
        made_scheme(), "zoe:lord -bob:lord ann:lord crate:box",
        "zoe know ann, ann know bob, zoe own crate, ann use ann",
    )


def put(rows, place, row):
    return rows[:place] + [row] + rows[place:]


def without(rows, *gone):
    return [row for row in rows if row not in gone]


def exchanged(rows, place, row):
    return rows[:place] + [row] + rows[place + 1:]


class PapersTold(RefusalCase):
    def test_the_example(self):
        things, held = paper_of(made_house())
        self.assertEqual(things, [
            ("ann", "lord", True, None), ("bob", "lord", False, None), ("m1", "box", True, "ann"),
            ("m2", "bag", True, "ann"), ("m3", "bag", True, "m1"),
        ])
        self.assertEqual(held, [
            ("ann", "know", "bob"), ("ann", "own", "m1"), ("ann", "own", "m3"), ("ann", "use", "m1"),
            ("bob", "use", "m1"), ("m1", "own", "m3"), ("m2", "know", "ann"), ("m3", "know", "m1"),
        ])

    def test_kinds_of_values(self):
        paper = paper_of(made_house())
        self.assertIs(type(paper), tuple)
        self.assertEqual([type(part) for part in paper], [list, list])
        self.assertEqual({type(row) for part in paper for row in part}, {tuple})
        self.assertEqual({type(row[2]) for row in paper[0]}, {bool})

    def test_against_a_plain_reckoning(self):
        for seed in range(120):
            lot = random.Random(seed)
            house = house_by_lot(lot, scheme_by_lot(lot))
            with self.subTest(seed=seed):
                self.assertEqual(paper_of(house), plain_paper(house))

    def test_a_house_without_things(self):
        self.assertEqual(paper_of(House(made_scheme())), ([], []))
        self.assertIsNone(fault(House(made_scheme()), ([], [])))

    def test_crowded(self):
        self.assertEqual(len(paper_of(many_of(full_makings(), "s0", 3))[0]), 24)
        self.refused("Crowded", [32], paper_of, many_of(full_makings(), "s0", 4))
        self.refused("Crowded", [25], paper_of, many_of(made_scheme(), "bag", 25))

    def test_what_is_told_is_the_askers_own(self):
        house = made_house()
        before = shown(house)
        things, held = paper_of(house)
        del things[1:]
        held.clear()
        self.assertEqual(paper_of(house), plain_paper(house))
        self.assertEqual(shown(house), before)

    def test_by_name(self):
        self.assertEqual(paper_of(house=made_house()), plain_paper(made_house()))


class Faults(RefusalCase):
    """Each fault where it is, in the paper of the wide house."""

    def setUp(self):
        self.house = wide_house()
        self.things, self.held = paper_of(self.house)

    def tells(self, wanted, things=None, held=None):
        """The fault, which the plain reckoning tells as well."""
        paper = (self.things if things is None else things, self.held if held is None else held)
        kept = (list(paper[0]), list(paper[1]))
        before = shown(self.house)
        self.assertEqual(plain_fault(self.house, paper), wanted)
        self.assertEqual(fault(self.house, paper), wanted)
        self.assertEqual(paper, kept)
        self.assertEqual(shown(self.house), before)

    def test_none(self):
        self.tells(None)
        self.assertIsNone(fault(paper=paper_of(self.house), house=self.house))

    def test_the_things_of_the_paper(self):
        self.assertEqual([row[0] for row in self.things], [
            "zoe", "bob", "ann", "crate", "m1", "m2", "m3", "m4", "m5", "m6", "m7",
        ])

    def test_things_left_out(self):
        self.tells(("things",), [], [])
        for place in range(4):
            self.tells(("things",), self.things[:place] + self.things[place + 1:])
            self.tells(("things",), self.things[:place], [])

    def test_things_exchanged(self):
        for one, other in itertools.combinations(range(4), 2):
            things = list(self.things)
            things[one], things[other] = things[other], things[one]
            self.tells(("things",), things)

    def test_things_otherwise(self):
        for place, (name, sort, awake, maker) in enumerate(self.things[:4]):
            others = [
                ("eve", sort, awake, None), (name, "bag", awake, None), (name, sort, not awake, None),
                (name, sort, awake, "zoe"), (name, "ghost", awake, None), (name, sort, awake, name),
            ]
            for row in others:
                self.tells(("things",), exchanged(self.things, place, row))

    def test_a_thing_put_among_those_of_the_house(self):
        for place in range(4):
            self.tells(("things",), put(self.things, place, ("eve", "lord", False, None)))
            self.tells(("things",), put(self.things, place, ("eve", "lord", False, "ann")))

    def test_things_without_maker_behind(self):
        for place in range(4, len(self.things) + 1):
            self.tells(("things",), put(self.things, place, ("eve", "bag", False, None)))
        for place in range(4, len(self.things)):
            name, sort, awake, maker = self.things[place]
            self.tells(("things",), exchanged(self.things, place, (name, sort, awake, None)))

    def test_names_twice(self):
        for place in range(4, len(self.things) + 1):
            for name in ("zoe", "crate", "m7"):
                self.tells(("twice", name), put(self.things, place, (name, "bag", False, "eve")))
        twice = self.things + [("m2", "bag", True, "m1"), ("zoe", "lord", False, "ann")]
        self.tells(("twice", "m2"), twice)
        self.tells(("twice", "zoe"), twice[:-2] + twice[:-3:-1])

    def test_strange_holdings(self):
        strange = [
            ("eve", "own", "ann"), ("ann", "own", "eve"), ("ann", "eat", "ann"), ("eve", "eat", "eve"), ("", "", ""),
            ("ann", "Own", "ann"), ("m8", "own", "ann"), ("lord", "own", "box"),
        ]
        for holding in strange:
            for place in (0, 1, len(self.held) // 2, len(self.held) - 1, len(self.held)):
                self.tells(("strange",) + holding, None, put(self.held, place, holding))
        # The first in the paper's order, not the first sorted.
        self.tells(("strange", "zoe", "own", "x"), None, self.held + [("zoe", "own", "x"), ("ann", "own", "x")])

    def test_children_that_lack(self):
        for place in range(4, len(self.things)):
            name, sort, awake, maker = self.things[place]
            wanted = ("child", maker, sort)
            held = [row for row in self.held if name not in (row[0], row[2])]
            if name not in [row[3] for row in self.things]:
                self.tells(wanted, self.things[:place] + self.things[place + 1:], held)
            self.tells(wanted, exchanged(self.things, place, (name, sort, False, maker)))
            self.tells(wanted, exchanged(self.things, place, (name, "ghost", awake, maker)))
            self.tells(wanted, exchanged(self.things, place, (name, sort, awake, "nobody")))
        self.tells(("child", "ann", "bag"), exchanged(self.things, 7, ("m4", "bag", True, "zoe")))

    def test_the_first_thing_and_the_first_making_without_child(self):
        self.tells(("child", "zoe", "box"), self.things[:4], self.house.held())
        # The scheme's order of makings, box ahead of bag, and the paper's order of things.
        bags = [("m2", "bag", True, "zoe"), ("m1", "box", True, "zoe")]
        self.tells(("child", "ann", "box"), self.things[:4] + bags, self.house.held())
        things = self.things[:4] + bags + [("m4", "bag", True, "ann"), ("m3", "box", True, "ann")]
        self.tells(("child", "crate", "bag"), things, self.house.held())
        things.append(("m5", "bag", True, "crate"))
        self.tells(("child", "m1", "bag"), things, self.house.held())
        things[4:6] = bags[::-1]
        self.tells(("child", "m1", "bag"), things, self.house.held())
        things[4:8] = [things[7], things[6], *bags]
        self.tells(("child", "m3", "bag"), things, self.house.held())

    def test_who_sleeps_needs_no_child(self):
        things = self.things + [("eve", "lord", False, "ann"), ("zed", "box", False, "bob")]
        self.tells(None, things)
        self.tells(("child", "eve", "box"), self.things + [("eve", "lord", True, "ann")])

    def test_several_children_of_which_the_first_counts(self):
        self.tells(None, self.things + [("b9", "bag", True, "ann")])
        for place in range(4, 8):
            things = put(self.things, place, ("b9", "bag", True, "ann"))
            self.tells(("word", "b9", "know", "ann"), things)
            self.tells(None, things, self.held + [("b9", "know", "ann")])
            # The one that stands behind is no child then, and needs no words.
            held = without(self.held, ("m4", "know", "ann"))
            self.tells(None, things, held + [("b9", "know", "ann")])
        # One ahead that sleeps or is of another sort is none of them.
        self.tells(None, put(self.things, 4, ("b9", "bag", False, "ann")))
        self.tells(None, put(self.things, 4, ("b9", "ghost", True, "ann")))

    def test_holdings_of_the_house_that_lack(self):
        for holding in self.house.held():
            self.tells(("held",) + holding, None, without(self.held, holding))
        self.assertEqual(self.house.held()[0], ("ann", "know", "bob"))
        self.tells(("held", "ann", "know", "bob"), None, [])
        self.tells(("held", "ann", "use", "ann"), None, [("ann", "know", "bob"), ("zoe", "own", "crate")])

    def test_words_that_lack(self):
        rows = [
            ("zoe", "own", "m1"), ("zoe", "use", "m1"), ("m2", "know", "zoe"), ("ann", "own", "m3"),
            ("ann", "use", "m3"), ("m4", "know", "ann"), ("crate", "own", "m5"), ("m5", "know", "crate"),
            ("m1", "own", "m6"), ("m6", "know", "m1"), ("m3", "own", "m7"), ("m7", "know", "m3"),
        ]
        for place, row in enumerate(rows):
            self.tells(("word",) + row, None, without(self.held, row))
            # Of several the first is told.
            self.tells(("word",) + row, None, without(self.held, *rows[place:]))
            self.tells(("word",) + row, None, without(self.held, row, rows[-1]))

    def test_down_ahead_of_up_and_words_in_their_order(self):
        makings = [Making("s", "t", ["own", "use"], ["use", "own"])]
        house = house_of(Scheme(["s", "t"], ["use", "own"], makings), "a:s")
        things, held = paper_of(house)
        rows = [("a", "own", "m1"), ("a", "use", "m1"), ("m1", "use", "a"), ("m1", "own", "a")]
        self.assertEqual(held, sorted(rows))
        for place, row in enumerate(rows):
            self.assertEqual(fault(house, (things, rows[:place])), ("word",) + row)
        self.assertIsNone(fault(house, (things, rows)))

    def test_rules(self):
        given = [row for row in self.held if plain_fault(self.house, (self.things, without(self.held, row)))[0] == "rule"]
        self.assertGreater(len(given), 6)
        for row in given:
            name, things = fault(self.house, (self.things, without(self.held, row)))[1:]
            self.assertEqual(at(self.house.scheme().rule(name), things)[1], row)
            self.tells(("rule", name, things), None, without(self.held, row))

    def test_rule_by_rule_and_then_the_first_tuple(self):
        # Pass stands ahead of lend and lend ahead of greet, whatever the things are called.
        first, middle, last = ("zoe", "own", "m6"), ("ann", "use", "m1"), ("ann", "know", "zoe")
        self.tells(("rule", "pass", ("zoe", "m1", "m6")), None, without(self.held, first, middle, last))
        self.tells(("rule", "lend", ("zoe", "ann", "m1")), None, without(self.held, middle, last))
        self.tells(("rule", "greet", ("zoe", "ann")), None, without(self.held, last))
        # Sorted by names, though zoe stands ahead of ann.
        self.tells(("rule", "pass", ("ann", "m3", "m7")), None, without(self.held, first, ("ann", "own", "m7")))

    def test_the_first_tuple_of_many(self):
        rule = rule_of("r", "a b c d", "a own b, c own b, d own c", "b use a", "d")
        scheme = Scheme(["s"], ["own", "use"], None, [rule])
        names = ["t" + str(number) for number in range(12)]
        house = house_of(scheme, " ".join(name + ":s" for name in names), "t2 own t10")
        for x, y in itertools.product(names, repeat=2):
            house.give(x, "own", y)
        things = [(name, "s", True, None) for name in names]
        everything = all_triples(names, ["own", "use"])
        self.assertIsNone(fault(house, (things, everything)))
        for holding, wanted in [
            (("t0", "use", "t0"), ("t0", "t0", "t0", "t0")),
            (("t9", "use", "t3"), ("t3", "t9", "t0", "t0")),
            (("t11", "use", "t9"), ("t9", "t11", "t0", "t0")),
        ]:
            self.assertEqual(fault(house, (things, without(everything, holding))), ("rule", "r", wanted))
        # Sorted as texts: t10 and t11 stand ahead of t2.
        gone = [("t1", "use", "t2"), ("t1", "use", "t11"), ("t5", "use", "t11")]
        self.assertEqual(fault(house, (things, without(everything, *gone))), ("rule", "r", ("t11", "t1", "t0", "t0")))

    def test_the_hand_has_to_be_awake(self):
        self.assertNotIn(("bob", "know", "ann"), self.held)
        self.house.wake("bob")
        self.things, self.held = paper_of(self.house)
        self.tells(("rule", "greet", ("ann", "bob")), None, without(self.held, ("bob", "know", "ann")))

    def test_each_pair_of_kinds(self):
        spoilers = [
            lambda things, held: ([things[1], things[0], *things[2:]], held),
            lambda things, held: (things + [("m3", "bag", True, "ann")], held),
            lambda things, held: (things, held + [("ann", "own", "nobody")]),
            lambda things, held: (exchanged(things, 4, ("m3", "bag", False, "m1")), held),
            lambda things, held: (things, without(held, ("ann", "know", "bob"))),
            lambda things, held: (things, without(held, ("ann", "use", "m1"))),
            lambda things, held: (things, without(held, ("ann", "own", "m3"))),
        ]
        self.house = made_house()
        self.things, self.held = paper_of(self.house)
        told = [
            ("things",), ("twice", "m3"), ("strange", "ann", "own", "nobody"), ("child", "m1", "bag"),
            ("held", "ann", "know", "bob"), ("word", "ann", "use", "m1"), ("rule", "pass", ("ann", "m1", "m3")),
        ]
        self.assertEqual([row[0] for row in told], KINDS)
        for place, spoil in enumerate(spoilers):
            self.tells(told[place], *spoil(self.things, self.held))
        for one, other in itertools.combinations(range(len(KINDS)), 2):
            with self.subTest(pair=(KINDS[one], KINDS[other])):
                self.tells(told[one], *spoilers[one](*spoilers[other](self.things, self.held)))
        things, held = self.things, self.held
        for place in reversed(range(len(KINDS))):
            things, held = spoilers[place](things, held)
            self.tells(told[place], things, held)


class WiderPapers(RefusalCase):
    def test_holdings_in_any_order(self):
        house = wide_house()
        things, held = paper_of(house)
        for seed in range(10):
            lot = random.Random(seed)
            mixed = lot.sample(held, len(held))
            self.assertIsNone(fault(house, (things, mixed)))
            self.assertIsNone(fault(house, (things, mixed + held)))

    def test_children_in_another_order(self):
        house = wide_house()
        things, held = paper_of(house)
        for seed in range(10):
            lot = random.Random(seed)
            self.assertIsNone(fault(house, (things[:4] + lot.sample(things[4:], len(things) - 4), held)))

    def test_more_holdings_than_the_finished_house(self):
        house = wide_house()
        things, held = paper_of(house)
        everything = all_triples([row[0] for row in things], house.scheme().words())
        self.assertIsNone(fault(house, (things, everything)))
        self.assertIs(keeps_out(house, (things, everything), "bob", "own", "crate"), False)
        # A paper with more keeps out what it lacks all the same.
        wider = (things, held + [("crate", "use", "crate")])
        self.assertIsNone(fault(house, wider))
        self.assertIs(keeps_out(house, wider, "bob", "own", "crate"), True)
        self.assertIs(keeps_out(house, wider, "crate", "use", "crate"), False)

    def test_sixty_things(self):
        house = wide_house()
        things, held = paper_of(house)
        more = [("x" + str(number), "ghost", True, "nobody") for number in range(49)]
        for wider in (things + more, things[:4] + more + things[4:], things[:7] + more + things[7:]):
            self.assertEqual(len(wider), 60)
            self.assertIsNone(fault(house, (wider, held)))
            everything = all_triples([row[0] for row in wider], house.scheme().words())
            self.assertIsNone(fault(house, (wider, everything)))
            gone = ("x9", "own", "x48")
            self.assertEqual(
                fault(house, (wider, without(everything, gone))), ("rule", "pass", ("x9", "ann", "x48")),
            )
            self.assertIs(keeps_out(house, (wider, held), "bob", "own", "crate"), True)

    def test_things_of_strange_sorts_act_by_rules_too(self):
        house = wide_house()
        things, held = paper_of(house)
        own = [("g1", "own", "g2"), ("g2", "own", "g1")]
        for awake, wanted in [(True, ("rule", "pass", ("g1", "g2", "g1"))), (False, None)]:
            wider = things + [("g1", "ghost", awake, "eve"), ("g2", "ghost", awake, "lord")]
            self.assertEqual(fault(house, (wider, held + own)), wanted)
        # A variable with a sort takes none of another sort.
        known = [("g1", "know", "g2"), ("g1", "own", "crate")]
        wider = things + [("g1", "ghost", True, "eve"), ("g2", "ghost", True, "g2")]
        self.assertEqual(fault(house, (wider, held + known)), ("rule", "pass", ("g1", "crate", "m5")))
        self.assertIsNone(fault(house, (wider, held + known + [("g1", "own", "m5")])))

    def test_makers_that_make_no_such_thing(self):
        house = wide_house()
        things, held = paper_of(house)
        odd = [("p", "bag", True, "bob"), ("q", "bag", False, "p"), ("r", "lord", False, "r"), ("s", "bag", True, "")]
        self.assertIsNone(fault(house, (things + odd, held)))

    def test_a_crowded_house_has_papers_too(self):
        house = many_of(full_makings(), "s3", 30)
        house.give("t1", "own", "t2")
        paper = ([(name, "s3", True, None) for name in house.things()], house.held())
        self.assertIsNone(fault(house, paper))
        self.assertIs(keeps_out(house, paper, "t2", "own", "t1"), True)
        self.assertIs(keeps_out(house, paper, "t1", "own", "t2"), False)

    def test_the_house_as_it_is_now(self):
        house = wide_house()
        paper = paper_of(house)
        house.sleep("ann")
        self.assertEqual(fault(house, paper), ("things",))
        house.wake("ann")
        house.give("crate", "know", "crate")
        self.assertEqual(fault(house, paper), ("held", "crate", "know", "crate"))
        house.take("crate", "know", "crate")
        house.take("zoe", "know", "ann")
        self.assertIsNone(fault(house, paper))
        house.enter("eve", "bag")
        self.assertEqual(fault(house, paper), ("things",))


def spoiled(lot, things, held):
    """The paper with something done to it by lot."""
    things, held = list(things), list(held)
    names = [row[0] for row in things]
    what = lot.randrange(9)
    place = lot.randrange(len(things))
    name, sort, awake, maker = things[place]
    if what <= 2 and held:
        held.remove(lot.choice(held))
    elif what == 3:
        held.insert(lot.randint(0, len(held)), (lot.choice(names), lot.choice(["own", "eat"]), lot.choice(names)))
    elif what == 4:
        held.insert(lot.randint(0, len(held)), (lot.choice(names), "use", lot.choice(names + ["eve"])))
    elif what == 5:
        things[place] = (name, lot.choice(["lord", "box", "bag", "ghost"]), awake, maker)
    elif what == 6:
        things[place] = (name, sort, not awake, maker)
    elif what == 7:
        things[place] = (lot.choice(names), sort, awake, maker)
    else:
        row = (lot.choice(["new", *names]), lot.choice(["bag", "bag", "box"]), lot.random() < 0.7, lot.choice(names))
        things.insert(lot.randint(0, len(things)), row)
    return things, held


class FaultsByLot(RefusalCase):
    def test_against_the_plain_reckoning(self):
        seen = {}
        for seed in range(900):
            lot = random.Random(seed)
            house = house_by_lot(lot, scheme_by_lot(lot), 3)
            paper = paper_of(house)
            for number in range(lot.randint(1, 4)):
                paper = spoiled(lot, *paper)
            wanted = plain_fault(house, paper)
            with self.subTest(seed=seed):
                self.assertEqual(fault(house, paper), wanted)
            kind = wanted and wanted[0]
            seen[kind] = seen.get(kind, 0) + 1
        for kind in [None, *KINDS]:
            self.assertGreater(seen.get(kind, 0), 10, kind)


def closed_paper(lot, house):
    """A paper with nothing amiss that may hold more than the finished house."""
    things, held = plain_paper(house)
    held = set(held)
    names = [row[0] for row in things]
    held.update(lot.sample(all_triples(names, house.scheme().words()), lot.randint(0, 3)))
    found = plain_rule_fault(house, things, held)
    while found:
        held.add(at(house.scheme().rule(found[1]), found[2])[1])
        found = plain_rule_fault(house, things, held)
    return things, lot.sample(sorted(held), len(held))


class KeepsOutAndBrings(RefusalCase):
    def test_true_and_false(self):
        house = made_house()
        paper = paper_of(house)
        for holding in all_triples(["ann", "bob"], ["own", "use", "know"]):
            self.assertIs(keeps_out(house, paper, *holding), holding not in paper[1])
        self.assertIs(keeps_out(house, paper, "bob", "know", "ann"), True)
        self.assertIs(keeps_out(house, paper, "ann", "know", "bob"), False)

    def test_a_paper_with_something_amiss_keeps_nothing_out(self):
        house = made_house()
        things, held = paper_of(house)
        bad = [
            (things[::-1], held), (things + [things[-1]], held), (things, held + [("ann", "own", "eve")]),
            (things[:-1], [row for row in held if "m3" not in row]), (things, held[1:]),
            (things, without(held, ("ann", "use", "m1"))), (things, without(held, ("bob", "use", "m1"))),
        ]
        for paper in bad:
            self.assertIsNotNone(fault(house, paper))
            self.assertIs(keeps_out(house, paper, "bob", "know", "ann"), False)

    def test_deeds_that_bring_it(self):
        house = small_house()
        house.give("ann", "own", "crate")
        deeds = [("do", "lend", ("ann", "bob", "crate"))]
        self.assertIs(brings(house, deeds, "bob", "use", "crate"), True)
        self.assertIs(brings(house, deeds, "bob", "use", "bob"), False)
        self.assertIs(brings(house, [], "bob", "use", "crate"), False)
        self.assertIs(brings(house, [], "bob", "own", "crate"), True)
        self.assertIs(brings(house, [("drop", "ann", "know", "bob")] + deeds, "bob", "use", "crate"), False)
        self.assertIs(brings(house, deeds + [("drop", "ann", "own", "crate")], "ann", "own", "crate"), False)

    def test_one_refused_deed_is_enough(self):
        house = small_house()
        house.give("ann", "own", "crate")
        good = ("do", "lend", ("ann", "bob", "crate"))
        for bad in [
            ("jump",), ("drop", "bob", "own", "crate"), ("make", "eve", "box", "m1"), ("do", "borrow", ("ann",)),
            ("do", "lend", ("ann",)), ("make", "ann", "box", "Box"), ("drop", "ann", "own", "ann"),
        ]:
            for deeds in ([bad, good], [good, bad], [good, bad, good]):
                self.assertIs(brings(house, deeds, "bob", "use", "crate"), False)

    def test_refusals_in_turn(self):
        house = made_house()
        start = {"house": house, "x": "eve", "word": "eat", "y": "zed"}
        steps = [("NoThing", ["eve"], {"x": "ann"}), ("NoThing", ["zed"], {"y": "bob"}), ("NoWord", ["eat"], {"word": "use"})]
        faulty = {**start, "paper": ([], [])}
        self.assertIs(self.refused_in_turn(keeps_out, faulty, steps), False)
        self.assertIs(self.refused_in_turn(brings, {**start, "deeds": [("jump",)]}, steps), False)
        # Made things are none of the house, neither those of the paper nor those of the deeds.
        self.refused("NoThing", ["m1"], keeps_out, house, paper_of(house), "m1", "own", "ann")
        self.refused("NoThing", ["m1"], keeps_out, house, paper_of(house), "ann", "own", "m1")
        self.refused("NoThing", ["m1"], brings, house, [("make", "ann", "box", "m1")], "ann", "own", "m1")
        self.refused("NoThing", [""], brings, house, [], "", "own", "ann")

    def test_nothing_is_changed(self):
        house = made_house()
        before, scheme_before = shown(house), told_lists(house.scheme())
        things, held = paper_of(house)
        deeds = [("make", "ann", "box", "chest"), ("drop", "ann", "own", "chest")]
        self.assertIs(keeps_out(house, (things, held), "bob", "own", "ann"), True)
        self.assertIs(brings(house, deeds, "ann", "know", "bob"), True)
        self.assertEqual((things, held), plain_paper(house))
        self.assertEqual(deeds, [("make", "ann", "box", "chest"), ("drop", "ann", "own", "chest")])
        self.assertEqual(shown(house), before)
        self.assertEqual(told_lists(house.scheme()), scheme_before)

    def test_by_names_in_another_order(self):
        house = made_house()
        paper = paper_of(house)
        self.assertIs(keeps_out(y="ann", word="know", x="bob", paper=paper, house=house), True)
        self.assertIs(brings(word="know", y="bob", deeds=[], x="ann", house=house), True)

    def test_never_both(self):
        kept = brought = 0
        for seed in range(60):
            lot = random.Random(seed)
            house = house_by_lot(lot, scheme_by_lot(lot), 3)
            paper, wider = paper_of(house), closed_paper(lot, house)
            self.assertIsNone(fault(house, wider))
            deeds = played_by_lot(lot, house, play)
            later = after(house, deeds)
            for holding in all_triples(house.things(), house.scheme().words()):
                with self.subTest(seed=seed, holding=holding):
                    self.assertIs(brings(house, deeds, *holding), later.holds(*holding))
                    if may(house, *holding):
                        brought += 1
                        self.assertIs(brings(house, how(house, *holding), *holding), True)
                        self.assertIs(keeps_out(house, paper, *holding), False)
                        self.assertIs(keeps_out(house, wider, *holding), False)
                    else:
                        kept += 1
                        self.assertIs(keeps_out(house, paper, *holding), True)
                        self.assertIs(keeps_out(house, wider, *holding), holding not in wider[1])
                        self.assertIs(brings(house, deeds, *holding), False)
        self.assertGreater(min(kept, brought), 200)


if __name__ == "__main__":
    unittest.main()
