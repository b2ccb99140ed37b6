"""The least that is needed (points 33 to 35)."""

import random
import unittest

from tests.helper import (
    RefusalCase, all_triples, full_makings, house_by_lot, house_of, line_house, made_house, many_of, plain_rounds,
    rule_of, scheme_by_lot, shown, told_lists,
)
from whomay.least import cure, guards, helpers
from whomay.patterns import Making
from whomay.schemes import Scheme
from whomay.ways import may


def plain_helpers(house, *asked):
    """The walk of point 33."""
    later = house.twin()
    for name in house.things():
        if house.is_awake(name):
            later.sleep(name)
            if not may(later, *asked):
                later.wake(name)
    return [name for name in later.things() if later.is_awake(name)]


def plain_guards(house, *asked):
    """The walk of point 34."""
    later = house.twin()
    hands = [name for name in house.things() if house.is_awake(name)]
    for name in hands:
        later.sleep(name)
    for name in hands:
        later.wake(name)
        if may(later, *asked):
            later.sleep(name)
    return [name for name in hands if not later.is_awake(name)]


def bare(house):
    later = house.twin()
    for holding in house.held():
        later.take(*holding)
    return later


def plain_cure(house, *asked):
    """The walk of point 35."""
    later = bare(house)
    for holding in house.held():
        later.give(*holding)
        if may(later, *asked):
            later.take(*holding)
    return [holding for holding in house.held() if not later.holds(*holding)]


def gift_scheme():
    """Whoever has a thing passes it on to whom they know."""
    rules = [
        rule_of("pass", "a b c", "a has c, a know b", "b has c", "a"),
        rule_of("show", "a b c", "a has c, b know a", "b has c", "b"),
    ]
    return Scheme(["s"], ["has", "know"], None, rules)


def gift_house(things="ann:s bob:s cat:s dan:s gem:s"):
    """From ann to dan by bob or by cat."""
    return house_of(gift_scheme(), things, "ann has gem, ann know bob, ann know cat, bob know dan, cat know dan")


def maker_scheme():
    """Who has made a box in which another can look comes to see that one."""
    makings = [Making("lord", "box", ["own"], ["in"])]
    rules = [
        rule_of("mark", "a b:box", "a own b", "a see a", "a"),
        rule_of("peep", "a b:box c", "b in c, c see c, c know a", "a see c", "b"),
    ]
    return Scheme(["lord", "box"], ["own", "in", "see", "know"], makings, rules)


class Helpers(RefusalCase):
    def test_who_must_act(self):
        house = gift_house()
        # Bob is put to sleep ahead of cat, so cat stays.
        self.assertEqual(helpers(house, "dan", "has", "gem"), ["ann", "cat"])
        self.assertEqual(helpers(house, "bob", "has", "gem"), ["ann"])
        self.assertEqual(helpers(gift_house("gem:s dan:s cat:s bob:s ann:s"), "dan", "has", "gem"), ["bob", "ann"])

    def test_who_sleeps_already_is_never_told(self):
        self.assertEqual(helpers(gift_house("ann:s bob:s -cat:s dan:s gem:s"), "dan", "has", "gem"), ["ann", "bob"])
        self.assertEqual(helpers(gift_house("ann:s -bob:s cat:s dan:s gem:s"), "dan", "has", "gem"), ["ann", "cat"])

    def test_the_later_hand_of_two(self):
        house = house_of(gift_scheme(), "ann:s bob:s gem:s", "ann has gem, ann know bob, bob know ann")
        self.assertEqual(helpers(house, "bob", "has", "gem"), ["bob"])
        house.sleep("bob")
        self.assertEqual(helpers(house, "bob", "has", "gem"), ["ann"])

    def test_where_it_stands_already_nobody(self):
        self.assertEqual(helpers(gift_house(), "ann", "has", "gem"), [])
        self.assertEqual(helpers(made_house(), "ann", "know", "bob"), [])

    def test_makers_and_what_they_make(self):
        house = house_of(maker_scheme(), "eve:lord ann:lord bob:lord", "ann know bob")
        self.assertEqual(helpers(house, "bob", "see", "ann"), ["ann"])
        house.give("eve", "know", "bob")
        self.assertEqual(helpers(house, "bob", "see", "eve"), ["eve"])
        house.sleep("ann")
        self.refused("Never", ["bob", "see", "ann"], helpers, house, "bob", "see", "ann")

    def test_a_row_of_hands(self):
        self.assertEqual(helpers(line_house(), "a", "far", "e"), ["a"])
        names = ["ann", "bob", "cat", "dan", "eve", "fay"]
        for row in (names, names[::-1]):
            house = house_of(gift_scheme(), " ".join(name + ":s" for name in row), "ann has ann")
            for one, other in zip(names, names[1:]):
                house.give(one, "know", other)
            self.assertEqual(helpers(house, "fay", "has", "ann"), [name for name in row if name != "fay"])
            self.assertEqual(guards(house, "fay", "has", "ann"), ["eve" if row == names else "ann"])
            # Fay herself, awake, looks at nobody.
            self.assertEqual(cure(house, "fay", "has", "ann"), [("eve", "know", "fay")])

    def test_refusals_in_turn(self):
        start = {"house": many_of(gift_scheme(), "s", 25), "x": "eve", "word": "eat", "y": "zed"}
        self.assertEqual(self.refused_in_turn(helpers, start, [
            ("NoThing", ["eve"], {"x": "t1"}), ("NoThing", ["zed"], {"y": "t2"}), ("NoWord", ["eat"], {"word": "has"}),
            ("Crowded", [25], {"house": many_of(gift_scheme(), "s", 24)}),
            ("Never", ["t1", "has", "t2"], {"house": gift_house(), "x": "bob", "y": "gem"}),
        ]), ["ann"])

    def test_by_names_in_another_order(self):
        self.assertEqual(helpers(y="gem", x="dan", house=gift_house(), word="has"), ["ann", "cat"])


class Guards(RefusalCase):
    def test_whose_sleep_is_enough(self):
        house = gift_house()
        # Ann is woken first, then bob would bring it about, then cat.
        self.assertEqual(guards(house, "dan", "has", "gem"), ["bob", "cat"])
        self.assertEqual(guards(gift_house("gem:s dan:s cat:s bob:s ann:s"), "dan", "has", "gem"), ["ann"])

    def test_never_one_who_slept_before(self):
        self.assertEqual(guards(gift_house("ann:s bob:s -cat:s -dan:s gem:s"), "dan", "has", "gem"), ["bob"])

    def test_nobody_where_it_never_comes_about(self):
        self.assertEqual(guards(gift_house(), "gem", "has", "gem"), [])
        self.assertEqual(guards(gift_house("-ann:s -bob:s -cat:s -dan:s -gem:s"), "dan", "has", "gem"), [])

    def test_makers(self):
        house = house_of(maker_scheme(), "eve:lord ann:lord bob:lord", "ann know bob")
        self.assertEqual(guards(house, "bob", "see", "ann"), ["ann"])

    def test_refusals_in_turn(self):
        crowded = many_of(gift_scheme(), "s", 25)
        crowded.give("t1", "has", "t2")
        start = {"house": crowded, "x": "eve", "word": "eat", "y": "zed"}
        self.assertEqual(self.refused_in_turn(guards, start, [
            ("NoThing", ["eve"], {"x": "t1"}), ("NoThing", ["zed"], {"y": "t2"}), ("NoWord", ["eat"], {"word": "has"}),
            ("Crowded", [25], {"house": gift_house(), "x": "ann", "y": "gem"}),
            ("NoCure", ["ann", "has", "gem"], {"x": "bob"}),
        ]), ["ann"])

    def test_by_names_in_another_order(self):
        self.assertEqual(guards(word="has", y="gem", x="dan", house=gift_house()), ["bob", "cat"])


class Cure(RefusalCase):
    def test_what_keeps_it_away(self):
        house = gift_house()
        # Sorted, ann has the gem and knows bob and cat first: then bob and cat must not know dan.
        self.assertEqual(cure(house, "dan", "has", "gem"), [("bob", "know", "dan"), ("cat", "know", "dan")])
        # Bob, who knows dan, could look at what dan has from ann by cat.
        self.assertEqual(cure(house, "bob", "has", "gem"), [("ann", "know", "bob"), ("cat", "know", "dan")])

    def test_the_asked_one_itself(self):
        self.assertEqual(cure(gift_house(), "ann", "has", "gem"), [("ann", "has", "gem")])
        house = gift_house()
        house.give("bob", "has", "gem")
        self.assertEqual(
            cure(house, "bob", "has", "gem"), [("ann", "know", "bob"), ("bob", "has", "gem"), ("cat", "know", "dan")],
        )

    def test_none_where_it_never_comes_about(self):
        self.assertEqual(cure(gift_house(), "gem", "has", "gem"), [])
        self.assertEqual(cure(house_of(gift_scheme(), "ann:s"), "ann", "has", "ann"), [])

    def test_what_can_come_about_of_itself(self):
        house = house_of(maker_scheme(), "eve:lord ann:lord bob:lord", "ann know bob, ann see ann")
        self.refused("NoCure", ["ann", "see", "ann"], cure, house, "ann", "see", "ann")
        self.assertEqual(cure(house, "bob", "see", "ann"), [("ann", "know", "bob")])
        house.sleep("ann")
        self.assertEqual(cure(house, "ann", "see", "ann"), [("ann", "see", "ann")])

    def test_refusals_in_turn(self):
        crowded = many_of(maker_scheme(), "lord", 13)
        start = {"house": crowded, "x": "eve", "word": "eat", "y": "zed"}
        self.assertEqual(self.refused_in_turn(cure, start, [
            ("NoThing", ["eve"], {"x": "t1"}), ("NoThing", ["zed"], {"y": "t1"}), ("NoWord", ["eat"], {"word": "see"}),
            ("Crowded", [26], {"house": many_of(maker_scheme(), "lord", 12)}),
            ("NoCure", ["t1", "see", "t1"], {"y": "t2"}),
        ]), [])

    def test_by_names_in_another_order(self):
        self.assertEqual(cure(word="has", y="gem", house=gift_house(), x="dan"), [
            ("bob", "know", "dan"), ("cat", "know", "dan"),
        ])

    def test_given_again_for_good(self):
        # Each of the two could be given alone, the second not beside the first.
        scheme = Scheme(["s"], ["p", "q", "r"], None, [rule_of("both", "a b", "a p b, a q b", "a r b", "a")])
        house = house_of(scheme, "a:s b:s", "a q b, a p b")
        self.assertEqual(cure(house, "a", "r", "b"), [("a", "q", "b")])


class Walks(RefusalCase):
    def plain(self, walk, plain_walk, house, holding, refusal):
        """The walk's answer is the plain one, or the refusal, and the house stays as it is."""
        before, scheme_before = shown(house), told_lists(house.scheme())
        if refusal is not None:
            self.refused(refusal, holding, walk, house, *holding)
        else:
            told = walk(house, *holding)
            self.assertEqual(told, plain_walk(house, *holding))
            self.assertIs(type(told), list)
            told.append("spoiled")
            self.assertEqual(walk(house, *holding), told[:-1])
        self.assertEqual(shown(house), before)
        self.assertEqual(told_lists(house.scheme()), scheme_before)
        return [] if refusal else told[:-1]

    def test_against_plain_walks(self):
        longest = {"helpers": 0, "guards": 0, "cure": 0}
        many = {"helpers": 0, "guards": 0, "cure": 0}
        for seed in range(130):
            lot = random.Random(seed)
            house = house_by_lot(lot, scheme_by_lot(lot), 5, 9)
            rounds, first = plain_rounds(house), plain_rounds(bare(house))
            for holding in lot.sample(all_triples(house.things(), house.scheme().words()), 10):
                with self.subTest(seed=seed, holding=holding):
                    rows = [
                        ("helpers", helpers, plain_helpers, None if holding in rounds else "Never"),
                        ("guards", guards, plain_guards, "NoCure" if house.holds(*holding) else None),
                        ("cure", cure, plain_cure, "NoCure" if holding in first else None),
                    ]
                    for name, walk, plain_walk, refusal in rows:
                        told = self.plain(walk, plain_walk, house, holding, refusal)
                        longest[name] = max(longest[name], len(told))
                        many[name] += refusal is None and told != []
        self.assertGreaterEqual(min(longest.values()), 2)
        self.assertGreater(min(many.values()), 30)

    def test_what_they_tell_is_right(self):
        for seed in range(200, 260):
            lot = random.Random(seed)
            house = house_by_lot(lot, scheme_by_lot(lot), 4, 9)
            holding = lot.choice(all_triples(house.things(), house.scheme().words()))
            if house.holds(*holding) or not may(house, *holding):
                continue
            only, shut = house.twin(), house.twin()
            for name in house.things():
                if name not in helpers(house, *holding):
                    only.sleep(name)
            for name in guards(house, *holding):
                shut.sleep(name)
            with self.subTest(seed=seed, holding=holding):
                self.assertIs(may(only, *holding), True)
                self.assertIs(may(shut, *holding), False)
                for name in helpers(house, *holding):
                    only.sleep(name)
                    self.assertIs(may(only, *holding), False)
                    only.wake(name)
                if not may(bare(house), *holding):
                    cured = house.twin()
                    for gone in cure(house, *holding):
                        cured.take(*gone)
                    self.assertIs(may(cured, *holding), False)

    def test_a_full_house_is_no_crowded_one(self):
        house = many_of(full_makings(), "s0", 3)
        house.give("t0", "own", "t1")
        self.assertEqual(helpers(house, "t0", "own", "t1"), [])
        self.assertEqual(guards(house, "t1", "own", "t0"), [])
        self.assertEqual(cure(house, "t0", "own", "t1"), [("t0", "own", "t1")])
        house.enter("t3", "s3")
        for walk in (helpers, guards, cure):
            self.refused("Crowded", [25], walk, house, "t0", "own", "t1")


if __name__ == "__main__":
    unittest.main()
