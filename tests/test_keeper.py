"""The keeper (points 43 to 45)."""

import random
import unittest

from tests.helper import (
    RefusalCase, SORTS, WORDS, all_triples, at, bar_of, both, full_makings, lend, moved, plain_children, plain_matches,
    plain_rounds, rule_of, scheme_by_lot, shown, things_with_sorts, told_lists,
)
from whomay.deeds import after, play
from whomay.errors import Barred, WhoError
from whomay.houses import House
from whomay.keeper import Keeper
from whomay.patterns import Bar, Making, Rule
from whomay.schemes import Scheme


def state(keeper):
    """All that a keeper tells of itself."""
    return shown(keeper.house()), told_lists(keeper.scheme()), keeper.many()


def plain_crowd(house):
    return len(house) + len(plain_children(house))


def plain_met(house):
    """The names of the bars that could ever come to stand, in their order."""
    things = things_with_sorts(house) + [(name, making.made, True) for maker, making, name in plain_children(house)]
    rounds = plain_rounds(house)
    return [bar.name for bar in house.scheme().bars() if plain_matches(things, rounds, bar)]


def calm_scheme():
    """As the small scheme, but a lord does not use the box it makes."""
    return Scheme(SORTS, WORDS, [Making("lord", "box", ["own"], [])], [lend()], [both()])


def gate_scheme(bars=()):
    """Who is given a key opens what it fits, if a hand is there to do it."""
    makings = [Making("lord", "box", ["own"], [])]
    rules = [rule_of("open", "a b:box", "a own b, a key a", "a in b", "a")]
    return Scheme(["lord", "box"], ["own", "key", "in"], makings, rules, list(bars))


def inside():
    return bar_of("inside", "x y", "x in y")


class KeeperCase(RefusalCase):
    def barred(self, bar_name, later, call, *places, **named):
        """The change is refused by that bar, which stands behind the told deeds of the house with the change done."""
        with self.assertRaises(WhoError) as caught:
            call(*places, **named)
        error = caught.exception
        self.assertIs(type(error), Barred)
        self.only_under_base(error)
        self.assertEqual((error.name, error.told()), (bar_name, "refused barred"))
        self.assertEqual((type(error.spots), type(error.deeds)), (tuple, list))
        end = after(later, error.deeds)
        bar = later.scheme().bar(bar_name)
        self.assertEqual(len(error.spots), len(bar.variables))
        for thing, (variable, sort) in zip(error.spots, bar.variables):
            self.assertIn(sort, (None, end.sort_of(thing)))
        for x, word, y in at(bar, error.spots)[0]:
            self.assertTrue(end.holds(x, word, y))
        return error

    def unchanged(self, keeper, refusing, *places):
        before = state(keeper)
        refusing(*places)
        self.assertEqual(state(keeper), before)


class Changes(KeeperCase):
    """Changes that are done, and those that house and scheme refuse."""

    def test_at_first(self):
        scheme = calm_scheme()
        keeper = Keeper(scheme)
        self.assertEqual(shown(keeper.house()), ([], [], 0))
        self.assertIs(type(keeper.house()), House)
        self.assertEqual(told_lists(keeper.scheme()), told_lists(scheme))
        self.assertEqual(keeper.many(), 0)
        self.assertEqual(state(Keeper(scheme=scheme)), state(keeper))

    def test_changes_of_the_house(self):
        keeper, house = Keeper(calm_scheme()), House(calm_scheme())
        for change in [
            lambda one: one.enter("ann", "lord"), lambda one: one.enter("bob", "lord", False),
            lambda one: one.enter("crate", "box", True), lambda one: one.give("ann", "know", "bob"),
            lambda one: one.give("bob", "own", "crate"), lambda one: one.take("bob", "own", "crate"),
            lambda one: one.sleep("ann"), lambda one: one.enter(awake=False, sort="bag", name="b1"),
            lambda one: one.give(y="b1", word="use", x="b1"), lambda one: one.take(word="use", y="b1", x="b1"),
            lambda one: one.sleep(x="crate"), lambda one: one.wake(x="crate"),
        ]:
            change(house)
            before = keeper.many()
            self.assertIsNone(change(keeper))
            self.assertEqual(shown(keeper.house()), shown(house))
            self.assertEqual(keeper.many(), before + 1)
        self.assertEqual(told_lists(keeper.scheme()), told_lists(calm_scheme()))

    def test_deeds_from_inside(self):
        keeper = Keeper(calm_scheme().without_bar("both"))
        for name, sort in [("ann", "lord"), ("bob", "lord"), ("crate", "box")]:
            keeper.enter(name, sort)
        keeper.give("ann", "know", "bob")
        keeper.give("ann", "own", "crate")
        house = keeper.house()
        for deed in [
            ("make", "ann", "box", "m1"), ("do", "lend", ("ann", "bob", "m1")), ("drop", "ann", "know", "bob"),
            ("do", "lend", ("ann", "bob", "crate")),
        ]:
            before = state(keeper)
            try:
                play(house, deed)
            except WhoError as refusal:
                self.refused("NotHeld", ["ann", "know", "bob"], keeper.play, deed)
                self.assertEqual(refusal.told(), "refused notheld")
                self.assertEqual(state(keeper), before)
            else:
                keeper.play(deed=deed)
                self.assertEqual(keeper.many(), before[2] + 1)
            self.assertEqual(shown(keeper.house()), shown(house))

    def test_changes_of_the_scheme(self):
        keeper = Keeper(Scheme(SORTS, WORDS))
        keeper.enter("ann", "lord")
        keeper.enter("bob", "bag", False)
        keeper.give("ann", "know", "bob")
        kept, scheme = shown(keeper.house()), Scheme(SORTS, WORDS)
        making, other = Making("lord", "box", ["own"], []), Making("box", "bag", [], [])
        greet = rule_of("greet", "a b", "a know b", "b know a", "a")
        for change, later in [
            (lambda: keeper.add_rule(lend()), lambda one: one.with_rule(lend())),
            (lambda: keeper.add_rule(rule=greet), lambda one: one.with_rule(greet)),
            (lambda: keeper.add_bar(both()), lambda one: one.with_bar(both())),
            (lambda: keeper.add_bar(bar=bar_of("b", "a", "a own a, a use a")), lambda one: one.with_bar(bar_of("b", "a", "a own a, a use a"))),
            (lambda: keeper.add_making(making), lambda one: one.with_making(making)),
            (lambda: keeper.add_making(making=other), lambda one: one.with_making(other)),
            (lambda: keeper.drop_rule("lend"), lambda one: one.without_rule("lend")),
            (lambda: keeper.drop_bar("both"), lambda one: one.without_bar("both")),
            (lambda: keeper.drop_making("lord", "box"), lambda one: one.without_making("lord", "box")),
            (lambda: keeper.drop_rule(name="greet"), lambda one: one.without_rule("greet")),
            (lambda: keeper.drop_bar(name="b"), lambda one: one.without_bar("b")),
            (lambda: keeper.drop_making(made="bag", maker="box"), lambda one: one.without_making("box", "bag")),
        ]:
            scheme = later(scheme)
            before = keeper.many()
            self.assertIsNone(change())
            self.assertEqual(told_lists(keeper.scheme()), told_lists(scheme))
            self.assertEqual(told_lists(keeper.house().scheme()), told_lists(scheme))
            self.assertEqual(shown(keeper.house()), kept)
            self.assertEqual(keeper.many(), before + 1)

    def test_refused_as_the_house_does(self):
        keeper = Keeper(calm_scheme())
        keeper.enter("ann", "lord")
        keeper.enter("crate", "box")
        keeper.give("ann", "own", "crate")
        before = state(keeper)
        for kind, fields, call, places in [
            ("NoName", ["Bob"], keeper.enter, ("Bob", "king")), ("Taken", ["ann"], keeper.enter, ("ann", "king")),
            ("NoSort", ["king"], keeper.enter, ("bob", "king")),
            ("NoSort", ["king"], keeper.enter, ("bob", "king", False)),
            ("NoThing", ["eve"], keeper.give, ("eve", "eat", "zed")),
            ("NoThing", ["zed"], keeper.give, ("ann", "eat", "zed")),
            ("NoWord", ["eat"], keeper.give, ("ann", "eat", "ann")),
            ("NoThing", ["eve"], keeper.take, ("eve", "eat", "zed")),
            ("NoThing", ["zed"], keeper.take, ("ann", "eat", "zed")),
            ("NoWord", ["eat"], keeper.take, ("ann", "eat", "ann")),
            ("NotHeld", ["crate", "own", "ann"], keeper.take, ("crate", "own", "ann")),
            ("NoThing", ["eve"], keeper.wake, ("eve",)), ("NoThing", ["eve"], keeper.sleep, ("eve",)),
            ("NoDeed", ["hop"], keeper.play, (("hop",),)),
            ("NoThing", ["eve"], keeper.play, (("make", "eve", "x", "y"),)),
            ("NoSort", ["x"], keeper.play, (("make", "ann", "x", "y"),)),
            ("NoMaking", ["box", "lord"], keeper.play, (("make", "crate", "lord", "y"),)),
            ("Taken", ["ann"], keeper.play, (("make", "ann", "box", "ann"),)),
            ("NoRule", ["steal"], keeper.play, (("do", "steal", ()),)),
            ("Misfit", ["lend"], keeper.play, (("do", "lend", ()),)),
            ("NotHeld", ["ann", "know", "ann"], keeper.play, (("do", "lend", ("ann", "ann", "crate")),)),
            ("NotHeld", ["ann", "use", "crate"], keeper.play, (("drop", "ann", "use", "crate"),)),
        ]:
            self.refused(kind, fields, call, *places)
            self.assertEqual(state(keeper), before)

    def test_refused_as_the_scheme_does(self):
        keeper = Keeper(calm_scheme())
        keeper.enter("ann", "lord")
        before = state(keeper)
        strange = rule_of("r", "a:king", "a eat a", "a own a", "a")
        for kind, fields, call, places in [
            ("Twice", ["lend"], keeper.add_rule, (lend(),)), ("NoSort", ["king"], keeper.add_rule, (strange,)),
            ("NoWord", ["eat"], keeper.add_rule, (rule_of("r", "a", "a eat a", "a own a", "a"),)),
            ("Twice", ["both"], keeper.add_bar, (both(),)),
            ("NoSort", ["king"], keeper.add_bar, (bar_of("b", "a:king", "a own a"),)),
            ("NoWord", ["eat"], keeper.add_bar, (bar_of("b", "a", "a eat a"),)),
            ("Twice", ["lord"], keeper.add_making, (Making("lord", "box", ["eat"], []),)),
            ("NoSort", ["king"], keeper.add_making, (Making("box", "king", ["eat"], []),)),
            ("Upward", ["box", "lord"], keeper.add_making, (Making("box", "lord", ["eat"], []),)),
            ("NoWord", ["eat"], keeper.add_making, (Making("box", "bag", ["eat"], []),)),
            ("NoRule", ["both"], keeper.drop_rule, ("both",)), ("NoBar", ["lend"], keeper.drop_bar, ("lend",)),
            ("NoMaking", ["lord", "bag"], keeper.drop_making, ("lord", "bag")),
            ("NoRule", [""], keeper.drop_rule, ("",)),
        ]:
            self.refused(kind, fields, call, *places)
            self.assertEqual(state(keeper), before)

    def test_too_many_of_a_kind(self):
        keeper = Keeper(Scheme(["s"], ["own", "use"]))
        for number in range(8):
            keeper.add_rule(rule_of("r" + str(number), "a", "a own a", "a own a", "a"))
        self.refused("BadCount", ["rules", 9], keeper.add_rule, rule_of("r8", "a", "a own a", "a own a", "a"))
        for number in range(4):
            keeper.add_bar(bar_of("b" + str(number), "a", "a use a"))
        self.refused("BadCount", ["bars", 5], keeper.add_bar, bar_of("b4", "a", "a use a"))
        self.assertEqual(keeper.many(), 12)

    def test_what_is_told_is_the_askers_own(self):
        keeper = Keeper(calm_scheme())
        keeper.enter("ann", "lord")
        before = state(keeper)
        house = keeper.house()
        house.enter("bob", "lord")
        house.give("ann", "own", "bob")
        house.sleep("ann")
        keeper.scheme().rules().clear()
        self.assertEqual(state(keeper), before)
        keeper.enter("cat", "bag")
        self.assertEqual(house.things(), ["ann", "bob"])
        self.assertEqual(keeper.house().things(), ["ann", "cat"])


class LooksAhead(KeeperCase):
    def later(self, keeper, change):
        """What the keeper's house would be with the change done."""
        house = keeper.house()
        change(house)
        return house

    def with_scheme(self, keeper, scheme):
        return moved(keeper.house(), scheme)

    def test_a_holding(self):
        keeper = Keeper(gate_scheme([inside()]))
        keeper.enter("ann", "lord")
        later = self.later(keeper, lambda house: house.give("ann", "key", "ann"))
        before = state(keeper)
        error = self.barred("inside", later, keeper.give, "ann", "key", "ann")
        self.assertEqual((error.spots, error.deeds), (("ann", "m1"), [
            ("make", "ann", "box", "m1"), ("do", "open", ("ann", "m1")),
        ]))
        self.barred("inside", later, keeper.give, y="ann", x="ann", word="key")
        self.assertEqual(state(keeper), before)
        keeper.give("ann", "own", "ann")

    def test_a_holding_by_which_the_bar_stands_at_once(self):
        keeper = Keeper(gate_scheme([inside()]))
        keeper.enter("ann", "lord", False)
        later = self.later(keeper, lambda house: house.give("ann", "in", "ann"))
        error = self.barred("inside", later, keeper.give, "ann", "in", "ann")
        self.assertEqual((error.spots, error.deeds), (("ann", "ann"), []))

    def test_a_thing(self):
        makings = [Making("lord", "box", ["own"], ["own"])]
        ring = bar_of("ring", "x y:box", "x own y, y own x")
        keeper = Keeper(Scheme(["lord", "box"], ["own"], makings, None, [ring]))
        for awake, name in [(False, "ann"), (False, "bob")]:
            keeper.enter(name, "lord", awake)
        later = self.later(keeper, lambda house: house.enter("cat", "lord"))
        self.barred("ring", later, keeper.enter, "cat", "lord")
        self.barred("ring", later, keeper.enter, awake=True, name="cat", sort="lord")
        keeper.enter("cat", "box")
        self.assertEqual(keeper.house().things(), ["ann", "bob", "cat"])

    def test_a_waking(self):
        keeper = Keeper(gate_scheme([inside()]))
        keeper.enter("ann", "lord", False)
        keeper.give("ann", "key", "ann")
        later = self.later(keeper, lambda house: house.wake("ann"))
        self.barred("inside", later, keeper.wake, "ann")
        self.assertIs(keeper.house().is_awake("ann"), False)
        keeper.take("ann", "key", "ann")
        keeper.wake("ann")

    def test_a_rule(self):
        keeper = Keeper(gate_scheme([inside()]))
        keeper.enter("ann", "lord")
        climb = rule_of("climb", "a b:box", "a own b", "a in b", "a")
        later = self.with_scheme(keeper, keeper.scheme().with_rule(climb))
        self.barred("inside", later, keeper.add_rule, climb)
        self.barred("inside", later, keeper.add_rule, rule=climb)
        self.assertEqual([rule.name for rule in keeper.scheme().rules()], ["open"])

    def test_a_making(self):
        keeper = Keeper(gate_scheme([inside()]).without_making("lord", "box"))
        keeper.enter("ann", "lord")
        keeper.give("ann", "key", "ann")
        making = Making("lord", "box", ["own"], [])
        later = self.with_scheme(keeper, keeper.scheme().with_making(making))
        self.barred("inside", later, keeper.add_making, making)
        keeper.add_making(Making("lord", "box", [], ["own"]))

    def test_a_bar(self):
        keeper = Keeper(gate_scheme())
        keeper.enter("ann", "lord")
        keeper.give("ann", "key", "ann")
        later = self.with_scheme(keeper, keeper.scheme().with_bar(inside()))
        self.barred("inside", later, keeper.add_bar, inside())
        self.assertEqual(keeper.scheme().bars(), [])
        keeper.take("ann", "key", "ann")
        keeper.add_bar(inside())

    def test_a_bar_that_stands_already(self):
        keeper = Keeper(gate_scheme())
        keeper.enter("ann", "lord", False)
        keeper.give("ann", "in", "ann")
        error = self.barred("inside", self.with_scheme(keeper, keeper.scheme().with_bar(inside())), keeper.add_bar, inside())
        self.assertEqual(error.deeds, [])

    def test_the_first_bar_in_the_schemes_order(self):
        never = bar_of("never", "x", "x in x, x key x, x own x")
        owner = bar_of("owner", "x y:lord", "x own y")
        keys = bar_of("keys", "x y", "x key y")
        for bars, wanted in [
            ([never, owner, inside(), keys], "inside"), ([never, keys, inside()], "keys"), ([inside(), keys], "inside"),
            ([owner, never, keys, inside()], "keys"),
        ]:
            keeper = Keeper(gate_scheme(bars))
            keeper.enter("ann", "lord")
            later = self.later(keeper, lambda house: house.give("ann", "key", "ann"))
            self.barred(wanted, later, keeper.give, "ann", "key", "ann")

    def test_a_bar_between_things_whose_makers_hold_nothing(self):
        makings = [Making("s0", "s1", [], []), Making("s1", "s2", [], []), Making("s2", "s3", ["own"], [])]
        sorts = ["s0", "s1", "s2", "s3"]
        keeper = Keeper(Scheme(sorts, ["own"], makings, None, [bar_of("b", "x:s2 y", "x own y")]))
        later = House(keeper.scheme())
        later.enter("m2", "s0")
        error = self.barred("b", later, keeper.enter, "m2", "s0")
        self.assertEqual(error.deeds, [
            ("make", "m2", "s1", "m1"), ("make", "m1", "s2", "m3"), ("make", "m3", "s3", "m4"),
        ])
        self.assertEqual(error.spots, ("m3", "m4"))

    def test_crowded(self):
        keeper = Keeper(full_makings())
        for name in ("a", "b", "c"):
            keeper.enter(name, "s0")
        before = state(keeper)
        self.refused("Crowded", [25], keeper.enter, "d", "s3")
        self.refused("Crowded", [25], keeper.enter, "d", "s0", False)
        self.refused("Crowded", [32], keeper.enter, "d", "s0")
        self.refused("Taken", ["a"], keeper.enter, "a", "s0")
        self.assertEqual(state(keeper), before)

    def test_crowded_by_a_waking_or_a_making(self):
        keeper = Keeper(Scheme(["s", "t"], ["own"]))
        for number in range(13):
            keeper.enter("t" + str(number), "s")
        self.refused("Crowded", [26], keeper.add_making, Making("s", "t", [], []))
        keeper.sleep("t0")
        self.refused("Crowded", [25], keeper.add_making, Making("s", "t", [], []))
        keeper.sleep("t1")
        keeper.add_making(Making("s", "t", [], []))
        self.refused("Crowded", [25], keeper.wake, "t0")
        keeper.wake("t5")

    def crowded_from_inside(self, bars=()):
        """A keeper whose house is crowded by makings from inside."""
        keeper = Keeper(gate_scheme(bars))
        keeper.enter("ann", "lord")
        keeper.enter("bob", "lord", False)
        keeper.give("bob", "own", "bob")
        for number in range(23):
            keeper.play(("make", "ann", "box", "b" + str(number)))
        return keeper

    def test_crowded_from_inside(self):
        keeper = self.crowded_from_inside([bar_of("b", "x", "x in x, x key x")])
        self.assertEqual(plain_crowd(keeper.house()), 26)
        # Looked ahead at also where nothing would change.
        for call, places in [
            (keeper.give, ("bob", "own", "bob")), (keeper.give, ("ann", "own", "ann")), (keeper.wake, ("ann",)),
            (keeper.add_rule, (rule_of("r", "a", "a own a", "a own a", "a"),)),
            (keeper.add_bar, (bar_of("c", "x", "x own x, x key x, x in x"),)),
        ]:
            self.unchanged(keeper, self.refused, "Crowded", [26], call, *places)
        self.unchanged(keeper, self.refused, "Crowded", [27], keeper.wake, "bob")
        self.unchanged(keeper, self.refused, "Crowded", [27], keeper.enter, "cat", "box")
        self.unchanged(keeper, self.refused, "Crowded", [28], keeper.enter, "cat", "lord")

    def test_crowded_ahead_of_barred(self):
        keeper = self.crowded_from_inside([inside()])
        self.unchanged(keeper, self.refused, "Crowded", [26], keeper.give, "ann", "in", "ann")
        self.unchanged(keeper, self.refused, "Crowded", [26], keeper.add_bar, bar_of("c", "x y", "x own y"))
        self.unchanged(keeper, self.refused, "Crowded", [26], keeper.add_rule, rule_of("r", "a b", "a own b", "a in b", "a"))
        # And behind what house and scheme refuse.
        self.unchanged(keeper, self.refused, "NoThing", ["eve"], keeper.give, "eve", "in", "ann")
        self.unchanged(keeper, self.refused, "NoWord", ["eat"], keeper.give, "ann", "eat", "ann")
        self.unchanged(keeper, self.refused, "Twice", ["inside"], keeper.add_bar, inside())
        self.unchanged(keeper, self.refused, "NoSort", ["bag"], keeper.enter, "cat", "bag")

    def test_never_refused_by_what_is_ahead(self):
        keeper = self.crowded_from_inside([inside()])
        keeper.take("bob", "own", "bob")
        keeper.sleep("b0")
        keeper.sleep("bob")
        keeper.play(("make", "ann", "box", "more"))
        keeper.play(("drop", "ann", "own", "more"))
        keeper.drop_rule("open")
        keeper.drop_bar("inside")
        self.assertEqual(plain_crowd(keeper.house()), 27)
        keeper.drop_making("lord", "box")
        self.refused("Crowded", [26], keeper.wake, "b0")
        keeper.sleep("ann")
        self.assertEqual(len(keeper.house()), 26)

    def test_deeds_by_rules_in_a_crowded_house(self):
        keeper = Keeper(gate_scheme())
        keeper.enter("ann", "lord")
        keeper.give("ann", "key", "ann")
        for number in range(58):
            keeper.play(("make", "ann", "box", "b" + str(number)))
        keeper.play(("do", "open", ("ann", "b57")))
        self.assertIs(keeper.house().holds("ann", "in", "b57"), True)
        keeper.play(("make", "ann", "box", "last"))
        self.refused("Full", [], keeper.play, ("make", "ann", "box", "more"))
        self.refused("Full", [], keeper.enter, "more", "box")

    def test_by_lot_against_a_plain_reckoning(self):
        seen = {}
        for seed in range(120):
            lot = random.Random(seed)
            scheme = scheme_by_lot(lot, 3)
            for number in range(lot.randint(0, 3)):
                scheme = scheme.with_bar(bar_by_lot(lot, "b" + str(number)))
            keeper, past = Keeper(scheme), []
            for step in range(25):
                with self.subTest(seed=seed, step=step):
                    kind = self.one_change(lot, keeper, past, step)
                seen[kind] = seen.get(kind, 0) + 1
                self.assertEqual(plain_met(keeper.house()), [])
        for kind in ["done", "Barred", "NotHeld", "NoBack", "back"]:
            self.assertGreater(seen.get(kind, 0), 10, (kind, seen))

    def one_change(self, lot, keeper, past, step):
        """Some change of the keeper, done or refused as it should be; its kind is told."""
        house = keeper.house()
        name, places, looks_ahead = change_by_lot(lot, house, "n" + str(step))
        before = state(keeper)
        if name == "back":
            if not past:
                self.refused("NoBack", [], keeper.back)
                return "NoBack"
            keeper.back()
            self.assertEqual(state(keeper), past.pop())
            return "back"
        try:
            later = plain_change(house, name, places)
        except WhoError as refusal:
            kind = type(refusal).__name__
            with self.assertRaises(type(refusal)):
                getattr(keeper, name)(*places)
            self.assertEqual(state(keeper), before)
            return kind
        met = plain_met(later)
        if looks_ahead and met:
            self.barred(met[0], later, getattr(keeper, name), *places)
            self.assertEqual(state(keeper), before)
            return "Barred"
        getattr(keeper, name)(*places)
        self.assertEqual(state(keeper), (shown(later), told_lists(later.scheme()), before[2] + 1))
        past.append(before)
        return "done"


def bar_by_lot(lot, name):
    names = ["a", "b"][:lot.randint(1, 2)]
    while True:
        variables = [(variable, lot.choice([None, None, *SORTS])) for variable in names]
        conditions = [(lot.choice(names), lot.choice(WORDS), lot.choice(names)) for number in range(lot.randint(1, 3))]
        try:
            return Bar(name, variables, conditions)
        except WhoError:
            continue


def change_by_lot(lot, house, name):
    """The name of a change, what it is handed, and whether the keeper looks ahead at it."""
    things = house.things() or ["nobody"]
    triple = lot.choice(all_triples(things, WORDS))
    held = lot.choice(house.held() or [triple])
    maker, made = lot.choice([("lord", "box"), ("box", "bag"), ("lord", "bag")])
    rule = Rule(name, [("p", None), ("q", None)], [("p", triple[1], "q")], ("q", lot.choice(WORDS), "p"), "p")
    rows = [("enter", (name, lot.choice(SORTS), lot.random() < 0.6), True)] * (3 if len(things) < 4 else 0)
    rows += [("give", triple, True)] * 3
    rows += [
        ("give", held, True), ("take", held, False), ("take", triple, False), ("wake", (triple[0],), True),
        ("sleep", (triple[0],), False),
        ("add_rule", (rule,), True), ("add_bar", (bar_by_lot(lot, name),), True),
        ("add_making", (Making(maker, made, [triple[1]], []),), True), ("drop_making", (maker, made), False),
        ("drop_rule", (lot.choice(["r0", "r1"]),), False), ("drop_bar", (lot.choice(["b0", "b1"]),), False),
        ("play", (("drop",) + held,), False), ("play", (("make", triple[0], made, name),), False), ("back", (), False),
    ]
    for each in house.scheme().rules():
        for names in plain_matches(things_with_sorts(house), house.held(), each)[:2]:
            rows.append(("play", (("do", each.name, names),), False))
    return lot.choice(rows)


def plain_change(house, name, places):
    """The house with the change done; refused as points 12, 14 and 16 tell."""
    later = house.twin()
    if name == "play":
        play(later, *places)
    elif name.startswith("add_"):
        later = moved(house, getattr(house.scheme(), name.replace("add_", "with_"))(*places))
    elif name.startswith("drop_"):
        later = moved(house, getattr(house.scheme(), name.replace("drop_", "without_"))(*places))
    else:
        getattr(later, name)(*places)
    return later


class TakingBack(KeeperCase):
    def setUp(self):
        self.keeper = Keeper(gate_scheme([inside()]))
        self.keeper.enter("ann", "lord")
        self.keeper.enter("bob", "lord", False)
        self.keeper.give("ann", "own", "bob")

    def test_nothing_to_take_back(self):
        keeper = Keeper(gate_scheme())
        before = state(keeper)
        self.refused("NoBack", [], keeper.back)
        self.assertEqual(state(keeper), before)
        keeper.enter("ann", "lord")
        self.assertIsNone(keeper.back())
        self.assertEqual(state(keeper), before)
        self.refused("NoBack", [], keeper.back)

    def changes(self):
        keeper = self.keeper
        return [
            lambda: keeper.enter("cat", "box"), lambda: keeper.give("bob", "own", "ann"),
            lambda: keeper.take("ann", "own", "bob"), lambda: keeper.give("ann", "own", "bob"),
            lambda: keeper.wake("bob"), lambda: keeper.sleep("ann"), lambda: keeper.wake("ann"),
            lambda: keeper.add_rule(rule_of("r", "a b", "a own b", "b own a", "a")),
            lambda: keeper.add_bar(bar_of("b", "x", "x key x, x in x")), lambda: keeper.drop_making("lord", "box"),
            lambda: keeper.add_making(Making("lord", "box", ["own"], ["own"])),
            lambda: keeper.play(("do", "r", ("ann", "bob"))), lambda: keeper.play(("make", "ann", "box", "m1")),
            lambda: keeper.play(("drop", "ann", "own", "m1")), lambda: keeper.drop_rule("r"),
            lambda: keeper.drop_bar("inside"),
        ]

    def test_each_kind_of_change(self):
        for change in self.changes():
            before = state(self.keeper)
            change()
            after_it = state(self.keeper)
            self.assertEqual(after_it[2], before[2] + 1)
            self.keeper.back()
            self.assertEqual(state(self.keeper), before)
            change()
            self.assertEqual(state(self.keeper), after_it)

    def test_changes_that_change_nothing(self):
        keeper = self.keeper
        keeper.enter("cat", "box", False)
        for change in [
            lambda: keeper.give("ann", "own", "bob"), lambda: keeper.wake("ann"), lambda: keeper.sleep("bob"),
            lambda: keeper.sleep("cat"),
        ]:
            before = state(keeper)
            change()
            self.assertEqual(state(keeper), (*before[:2], before[2] + 1))
            keeper.back()
            self.assertEqual(state(keeper), before)

    def test_several_in_a_row(self):
        states = []
        for change in self.changes():
            states.append(state(self.keeper))
            change()
        for earlier in reversed(states):
            self.keeper.back()
            self.assertEqual(state(self.keeper), earlier)
        for number in range(3, 0, -1):
            self.assertEqual(self.keeper.many(), number)
            self.keeper.back()
        self.refused("NoBack", [], self.keeper.back)
        self.assertEqual((shown(self.keeper.house()), self.keeper.many()), (([], [], 0), 0))

    def test_a_refused_change_is_none(self):
        before = state(self.keeper)
        self.refused("NoThing", ["eve"], self.keeper.give, "eve", "own", "bob")
        with self.assertRaises(Barred):
            self.keeper.give("ann", "in", "bob")
        with self.assertRaises(Barred):
            self.keeper.add_bar(bar_of("b", "x y", "x own y"))
        self.refused("NoRule", ["r"], self.keeper.play, ("do", "r", ("ann",)))
        self.assertEqual(state(self.keeper), before)
        self.keeper.back()
        self.assertEqual(self.keeper.house().held(), [])

    def test_a_change_behind_back(self):
        self.keeper.back()
        self.keeper.give("bob", "own", "ann")
        self.assertEqual((self.keeper.house().held(), self.keeper.many()), ([("bob", "own", "ann")], 3))
        self.keeper.back()
        self.keeper.back()
        self.assertEqual((self.keeper.house().things(), self.keeper.many()), (["ann"], 1))
        self.keeper.enter("cat", "box")
        self.keeper.back()
        self.assertEqual(self.keeper.house().things(), ["ann"])

    def test_what_was_told_before_stays(self):
        house, scheme = self.keeper.house(), self.keeper.scheme()
        kept = shown(house), told_lists(scheme)
        self.keeper.drop_bar("inside")
        self.keeper.take("ann", "own", "bob")
        self.keeper.back()
        self.keeper.back()
        self.keeper.back()
        self.assertEqual((shown(house), told_lists(scheme)), kept)


if __name__ == "__main__":
    unittest.main()
