"""Points 25 to 29: what may ever come about, how, by whom, and over which stones."""

import itertools
import random
import unittest

from tests.helper import (
    RefusalCase, all_deeds, all_triples, house_by_lot, house_of, line_house, made_house, made_scheme, many_of,
    passing_over, plain_rounds, rule_of, scheme_by_lot, shown,
)
from whomay.deeds import after, first_refused, play
from whomay.errors import WhoError
from whomay.finish import Finish
from whomay.houses import House
from whomay.patterns import Making
from whomay.schemes import Scheme
from whomay.ways import how, may, stones, who


def shop_scheme():
    """Bob comes to use a box only by one that ann makes and that a bag of it speaks for."""
    makings = [
        Making("lord", "bag", ["use"], []),
        Making("lord", "box", ["own"], []),
        Making("box", "bag", ["own"], ["know"]),
    ]
    rules = [
        rule_of("vouch", "l:lord b:box s:bag", "l own b, s know b", "s use l", "s"),
        rule_of("name", "l:lord b:box s:bag", "s use l, l own b, b own s", "b use l", "b"),
        rule_of("meet", "l:lord k:lord b:box", "b use l, l know k", "k know l", "b"),
        rule_of("trust", "l:lord k:lord", "k know l, l know k", "k own l", "k"),
    ]
    return Scheme(["lord", "box", "bag"], ["own", "use", "know"], makings, rules)


def shop_house():
    return house_of(shop_scheme(), "ann:lord bob:lord", "ann know bob")


def reached(house, most):
    """All holdings between things of the house that any few deeds lead to, tried one by one."""
    names = house.things()
    seen, rows, found = set(), [house], set()
    for number in range(most + 1):
        later = []
        for each in rows:
            state = str(shown(each))
            if state not in seen:
                seen.add(state)
                found.update(triple for triple in each.held() if triple[0] in names and triple[2] in names)
                if number < most:
                    later.extend(played_once(each, "n" + str(number)))
        rows = later
    return found


def played_once(house, new_name):
    for deed in all_deeds(house, new_name):
        later = house.twin()
        try:
            play(later, deed)
        except WhoError:
            continue
        yield later


def houses_by_lot(many, most_things=3, many_held=8):
    for seed in range(many):
        lot = random.Random(seed)
        yield seed, house_by_lot(lot, scheme_by_lot(lot), most_things, many_held)


class WayCase(RefusalCase):
    def good_way(self, house, x, word, y):
        """A way that the house plays, none of whose deeds can be spared."""
        before = shown(house)
        way = how(house, x, word, y)
        self.assertIs(type(way), list)
        self.assertIsNone(first_refused(house, way))
        self.assertTrue(after(house, way).holds(x, word, y))
        if house.holds(x, word, y):
            self.assertEqual(way, [])
        finish = Finish(house)
        for deed in way:
            self.assertIn(deed[0], ("make", "do"))
            if deed[0] == "make":
                self.assertEqual(finish.child(deed[1], deed[2]), deed[3])
        for some in self.parts(way):
            self.assertFalse(passing_over(house, some, play).holds(x, word, y), (way, some))
        self.assertEqual(shown(house), before)
        return way

    def parts(self, way):
        """The way with deeds left out: in all ways where it is short, else each one and each pair."""
        most = len(way) if len(way) <= 6 else 2
        for many in range(1, most + 1):
            for places in itertools.combinations(range(len(way)), many):
                yield [deed for place, deed in enumerate(way) if place not in places]


class May(WayCase):
    def test_on_a_line(self):
        house = line_house()
        for x, y in itertools.product("abcde", "abcde"):
            self.assertIs(may(house, x, "far", y), x < y)
            self.assertIs(may(house, x, "next", y), ord(y) - ord(x) == 1)
            self.assertIs(may(y=y, word="far", house=house, x=x), x < y)

    def test_by_things_that_are_made(self):
        house = shop_house()
        self.assertIs(may(house, "bob", "own", "ann"), True)
        self.assertIs(may(house, "ann", "own", "bob"), True)
        self.assertIs(may(house, "ann", "own", "ann"), False)
        house.take("ann", "know", "bob")
        self.assertIs(may(house, "bob", "own", "ann"), False)

    def test_hands_asleep(self):
        house = shop_house()
        house.sleep("ann")
        self.assertIs(may(house, "bob", "know", "ann"), False)
        house.wake("ann")
        house.sleep("bob")
        self.assertIs(may(house, "bob", "know", "ann"), True)
        self.assertIs(may(house, "bob", "own", "ann"), False)
        self.assertIs(may(house, "ann", "own", "bob"), True)

    def test_what_stands_already_though_no_deed_brings_it(self):
        house = house_of(shop_scheme(), "-ann:lord -bob:lord", "bob own ann")
        self.assertIs(may(house, "bob", "own", "ann"), True)
        self.assertIs(may(house, "ann", "own", "bob"), False)

    def test_against_a_plain_reckoning(self):
        for seed, house in houses_by_lot(100, 4, 10):
            rounds = plain_rounds(house)
            for triple in all_triples(house.things(), house.scheme().words()):
                with self.subTest(seed=seed, triple=triple):
                    self.assertIs(may(house, *triple), triple in rounds)

    def test_against_any_few_deeds_tried_one_by_one(self):
        new = 0
        for seed, house in houses_by_lot(60):
            before = shown(house)
            found = reached(house, 3)
            for triple in found:
                with self.subTest(seed=seed, triple=triple):
                    self.assertIs(may(house, *triple), True)
            for triple in all_triples(house.things(), house.scheme().words()):
                if may(house, *triple) and len(how(house, *triple)) <= 3:
                    self.assertIn(triple, found)
                    new += not house.holds(*triple)
            self.assertEqual(shown(house), before)
        self.assertGreater(new, 20)


class How(WayCase):
    def test_on_a_line(self):
        self.assertEqual(how(line_house(), "b", "far", "e"), [
            ("do", "first", ("b", "c")), ("do", "on", ("b", "c", "d")), ("do", "on", ("b", "d", "e")),
        ])
        self.assertEqual(how(y="c", x="b", house=line_house(), word="far"), [("do", "first", ("b", "c"))])

    def test_empty_where_the_holding_stands(self):
        self.assertEqual(how(line_house(), "b", "next", "c"), [])
        self.assertEqual(how(house_of(shop_scheme(), "-a:lord", "a own a"), "a", "own", "a"), [])

    def test_with_things_that_are_made(self):
        way = self.good_way(shop_house(), "bob", "own", "ann")
        # Ann's bag m1 and what bob makes are not needed; her box m2 is, and its bag m5.
        self.assertEqual(way, [
            ("make", "ann", "box", "m2"),
            ("make", "m2", "bag", "m5"),
            ("do", "vouch", ("ann", "m2", "m5")),
            ("do", "name", ("ann", "m2", "m5")),
            ("do", "meet", ("ann", "bob", "m2")),
            ("do", "trust", ("ann", "bob")),
        ])

    def test_makers_of_makers(self):
        makings = [Making("s0", "s1", ["own"], []), Making("s1", "s2", [], ["own"]), Making("s2", "s3", ["own"], ["use"])]
        rules = [
            rule_of("up", "a b c", "b own a, b own c", "a use c", "b"),
            rule_of("out", "a b c", "a own b, b use c", "a own c", "a"),
            rule_of("end", "a:s0 d:s3", "a own d", "a use a", "a"),
        ]
        scheme = Scheme(["s0", "s1", "s2", "s3"], ["own", "use"], makings, rules)
        house = house_of(scheme, "ann:s0 bob:s0")
        way = self.good_way(house, "bob", "use", "bob")
        self.assertEqual(way[:3], [("make", "bob", "s1", "m2"), ("make", "m2", "s2", "m4"), ("make", "m4", "s3", "m6")])

    def test_made_things_that_no_word_ties_to_the_house(self):
        makings = [Making("lord", "box", [], []), Making("box", "bag", ["own"], ["know"])]
        rules = [
            rule_of("up", "a:box b:bag", "a own b", "a own a", "b"),
            rule_of("far", "a:box b:bag", "a own a, b know a", "b own b", "a"),
        ]
        house = house_of(Scheme(["lord", "box", "bag"], ["own", "know"], makings, rules), "ann:lord")
        self.assertEqual(Finish(house).reason("m2", "own", "m2"), ("rule", "far", ("m1", "m2")))
        self.refused("NoThing", ["m2"], how, house, "m2", "own", "m2")
        self.refused("Never", ["ann", "own", "ann"], how, house, "ann", "own", "ann")

    def test_nothing_on_the_way_can_be_spared(self):
        lengths, made = [], 0
        for seed, house in houses_by_lot(120, 4, 10):
            for triple in plain_rounds(house):
                if set(triple[::2]) <= set(house.things()):
                    with self.subTest(seed=seed, triple=triple):
                        way = self.good_way(house, *triple)
                        lengths.append(len(way))
                        made += len([deed for deed in way if deed[0] == "make"])
        self.assertGreater(len([many for many in lengths if many > 0]), 100)
        self.assertGreater(max(lengths), 3)
        self.assertGreater(made, 10)

    def test_several_holdings_on_one_ground(self):
        scheme = Scheme(["s"], ["own", "use", "know"], None, [
            rule_of("one", "a b", "a own b", "a use b", "a"),
            rule_of("two", "a b", "a use b", "b use a", "b"),
            rule_of("three", "a b", "a use b, b use a, a own b", "a know b", "a"),
            rule_of("four", "a b", "a know b, b use a", "b know a", "a"),
        ])
        house = house_of(scheme, "ann:s bob:s", "ann own bob")
        self.assertEqual(len(self.good_way(house, "bob", "know", "ann")), 4)

    def test_a_house_with_such_names_already(self):
        house = house_of(shop_scheme(), "m2:lord m1:lord", "m2 know m1")
        way = self.good_way(house, "m1", "own", "m2")
        self.assertEqual(way[:2], [("make", "m2", "box", "m4"), ("make", "m4", "bag", "m7")])


class Who(WayCase):
    def test_on_a_line(self):
        house = line_house()
        self.assertEqual(who(house, "far", "d"), ["a", "b", "c"])
        self.assertEqual(who(y="b", house=house, word="next"), ["a"])
        self.assertEqual(who(house, "far", "a"), [])

    def test_in_the_order_of_the_things_of_the_house(self):
        scheme = Scheme(["s"], ["own"], None, [rule_of("r", "a b c", "a own b, b own c", "a own c", "a")])
        house = house_of(scheme, "zed:s m1:s ann:s bob:s", "zed own ann, ann own bob, bob own m1, m1 own bob")
        self.assertEqual(who(house, "own", "bob"), ["zed", "m1", "ann", "bob"])

    def test_no_made_thing_is_told(self):
        house = made_house()
        self.assertIsNotNone(Finish(house).round_of("m2", "know", "ann"))
        self.assertEqual(who(house, "know", "ann"), [])

    def test_against_may(self):
        for seed, house in houses_by_lot(60, 4, 10):
            for word, y in itertools.product(house.scheme().words(), house.things()):
                with self.subTest(seed=seed, word=word, y=y):
                    self.assertEqual(who(house, word, y), [x for x in house.things() if may(house, x, word, y)])


class Stones(WayCase):
    def test_on_a_line(self):
        house = line_house()
        self.assertEqual(stones(house, "a", "far", "d"), [("a", "far", "b"), ("a", "far", "c")])
        self.assertEqual(stones(word="far", y="e", x="b", house=house), [("b", "far", "c"), ("b", "far", "d")])
        self.assertEqual(stones(house, "a", "far", "b"), [])

    def test_by_two_ways(self):
        house = line_house()
        house.give("a", "next", "c")
        self.assertEqual(stones(house, "a", "far", "e"), [("a", "far", "c"), ("a", "far", "d")])
        house.give("c", "next", "e")
        self.assertEqual(stones(house, "a", "far", "e"), [("a", "far", "c")])
        house.give("d", "next", "b")
        house.give("a", "next", "d")
        self.assertEqual(stones(house, "a", "far", "e"), [])

    def test_what_stands_now_is_no_stone(self):
        house = line_house()
        house.give("a", "far", "b")
        self.assertEqual(stones(house, "a", "far", "d"), [("a", "far", "c")])

    def test_empty_where_the_asked_one_stands(self):
        house = line_house()
        house.give("a", "far", "d")
        self.assertEqual(stones(house, "a", "far", "d"), [])
        self.assertEqual(stones(house, "a", "next", "b"), [])

    def test_holdings_of_made_things_are_no_stones(self):
        self.assertEqual(stones(shop_house(), "bob", "own", "ann"), [("bob", "know", "ann")])
        self.assertEqual(stones(shop_house(), "bob", "know", "ann"), [])

    def test_against_finish_with_without(self):
        many = 0
        for seed, house in houses_by_lot(150, 4, 12):
            between = all_triples(house.things(), house.scheme().words())
            rounds = plain_rounds(house)
            for asked in [triple for triple in between if rounds.get(triple, 0) > 0]:
                wanted = []
                for triple in between:
                    if triple != asked and not house.holds(*triple):
                        if Finish(house, [triple]).round_of(*asked) is None:
                            wanted.append(triple)
                with self.subTest(seed=seed, asked=asked):
                    self.assertEqual(stones(house, *asked), sorted(wanted))
                many += len(wanted)
        self.assertGreater(many, 20)

    def test_every_way_brings_them_about(self):
        house = line_house()
        house.give("a", "next", "c")
        for x, word, y in stones(house, "a", "far", "e"):
            later, stood = house.twin(), False
            for deed in how(house, "a", "far", "e"):
                play(later, deed)
                stood = stood or later.holds(x, word, y)
            self.assertTrue(stood)


class Refused(WayCase):
    STEPS = [
        ("NoThing", ["eve"], {"x": "t0"}),
        ("NoThing", ["m1"], {"y": "t1"}),
        ("NoWord", ["eat"], {"word": "own"}),
    ]
    START = {"x": "eve", "word": "eat", "y": "m1"}

    def crowded_house(self):
        return many_of(made_scheme(), "lord", 7)

    def test_may_how_and_stones_in_turn(self):
        house = self.crowded_house()
        before = shown(house)
        for call in [may, how, stones]:
            steps = [*self.STEPS, ("Crowded", [28], {"house": many_of(made_scheme(), "lord", 2)})]
            if call != may:
                standing = house_of(made_scheme(), "t0:lord", "t0 own t0")
                steps.append(("Never", ["t0", "own", "t1"], {"y": "t0", "house": standing}))
            with self.subTest(call=call.__name__):
                told = self.refused_in_turn(call, {**self.START, "house": house}, steps)
                self.assertEqual(told, False if call == may else [])
        self.assertEqual(shown(house), before)

    def test_who_in_turn(self):
        told = self.refused_in_turn(who, {"house": self.crowded_house(), "word": "eat", "y": "m1"}, [
            ("NoThing", ["m1"], {"y": "t1"}),
            ("NoWord", ["eat"], {"word": "own"}),
            ("Crowded", [28], {"house": many_of(made_scheme(), "lord", 2)}),
        ])
        self.assertEqual(told, [])

    def test_crowded_also_where_the_holding_stands(self):
        house = self.crowded_house()
        house.give("t0", "own", "t1")
        for call in [may, how, stones]:
            self.refused("Crowded", [28], call, house, "t0", "own", "t1")
        self.refused("Crowded", [28], who, house, "own", "t1")

    def test_sixty_things(self):
        house = many_of(made_scheme(), "lord", 60)
        for call in [may, how, stones]:
            self.refused("Crowded", [240], call, house, "t0", "own", "t1")

    def test_made_things_are_no_things_of_the_house(self):
        house = made_house()
        for call in [may, how, stones]:
            self.refused("NoThing", ["m1"], call, house, "ann", "own", "m1")
            self.refused("NoThing", ["m1"], call, house, "m1", "own", "ann")
            self.refused("NoThing", [""], call, house, "", "own", "ann")
            self.refused("NoWord", ["Own"], call, house, "ann", "Own", "ann")
        self.refused("NoThing", ["m1"], who, house, "own", "m1")
        self.refused("NoWord", ["lord"], who, house, "lord", "ann")

    def test_never(self):
        house = made_house()
        before = shown(house)
        for call in [how, stones]:
            self.refused("Never", ["bob", "own", "ann"], call, house, "bob", "own", "ann")
            self.refused("Never", ["bob", "own", "ann"], call, y="ann", word="own", house=house, x="bob")
        self.assertEqual(shown(house), before)


class Again(WayCase):
    def test_the_same_questions_behind_changes_of_the_house(self):
        house = line_house()
        self.assertIs(may(house, "a", "far", "e"), True)
        house.take("c", "next", "d")
        self.assertIs(may(house, "a", "far", "e"), False)
        self.assertEqual(who(house, "far", "e"), ["d"])
        self.refused("Never", ["a", "far", "e"], how, house, "a", "far", "e")
        house.give("b", "next", "d")
        self.assertEqual(len(self.good_way(house, "a", "far", "e")), 3)
        self.assertEqual(stones(house, "a", "far", "e"), [("a", "far", "b"), ("a", "far", "d")])
        house.sleep("a")
        self.assertIs(may(house, "a", "far", "e"), False)
        house.wake("a")
        play(house, ("do", "first", ("a", "b")))
        self.assertEqual(stones(house, "a", "far", "e"), [("a", "far", "d")])
        house.enter("f", "s")
        house.give("e", "next", "f")
        self.assertEqual(who(house, "far", "f"), ["a", "b", "d", "e"])

    def test_behind_each_deed_of_a_way(self):
        house = shop_house()
        way = how(house, "bob", "own", "ann")
        for place, deed in enumerate(way):
            self.assertLessEqual(len(how(house, "bob", "own", "ann")), len(way) - place + 2)
            self.assertIs(may(house, "bob", "own", "ann"), True)
            self.good_way(house, "bob", "own", "ann")
            play(house, deed)
        self.assertEqual(how(house, "bob", "own", "ann"), [])

    def test_lists_told_are_the_askers_own(self):
        house = line_house()
        for call, told in [(how, 3), (stones, 2)]:
            row = call(house, "a", "far", "d")
            self.assertEqual(len(row), told)
            row.clear()
            self.assertEqual(len(call(house, "a", "far", "d")), told)
        row = who(house, "far", "d")
        row.append("eve")
        self.assertEqual(who(house, "far", "d"), ["a", "b", "c"])
        self.assertEqual(shown(house), shown(line_house()))

    def test_an_empty_house(self):
        self.refused("NoThing", ["ann"], may, House(made_scheme()), "ann", "own", "ann")
        self.refused("NoThing", ["ann"], who, House(made_scheme()), "own", "ann")


if __name__ == "__main__":
    unittest.main()
