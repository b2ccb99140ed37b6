"""Points 20 to 23: the finished house, its rounds, reasons and ways, and what is kept out of it."""

import itertools
import random
import unittest

from tests.helper import (
    RefusalCase, all_told, all_triples, at, full_makings, house_by_lot, house_of, line_house, made_house,
    made_scheme, many_of, plain_children, plain_rounds, rule_of, scheme_by_lot, shown, things_with_sorts,
    told_lists,
)
from whomay.deeds import after, first_refused, play
from whomay.finish import Finish
from whomay.houses import House
from whomay.patterns import Making
from whomay.schemes import Scheme


class FinishCase(RefusalCase):
    def fits_house(self, house, finish, without=()):
        """All that points 20 to 23 say of a finish of the house as it is."""
        children = plain_children(house)
        names = house.things() + [name for maker, making, name in children]
        self.assertEqual(finish.things(), names)
        wanted = {(maker, making.made): name for maker, making, name in children}
        for name in names:
            for sort in house.scheme().sorts():
                self.assertEqual(finish.child(name, sort), wanted.get((name, sort)))
        rounds = plain_rounds(house, without)
        self.assertEqual(finish.held(), sorted(rounds))
        for x, word, y in all_triples(names, house.scheme().words()):
            self.assertEqual(finish.round_of(x, word, y), rounds.get((x, word, y)))
            if (x, word, y) in rounds:
                self.reason_fits(house, finish, rounds, children, (x, word, y))
            else:
                self.refused("Never", [x, word, y], finish.reason, x, word, y)
        self.way_fits(house, finish, rounds, children)

    def reason_fits(self, house, finish, rounds, children, holding):
        reason = finish.reason(*holding)
        self.assertIs(type(reason), tuple)
        self.assertEqual(finish.reason(*holding), reason)
        if rounds[holding] > 0:
            kind, name, things = reason
            rule = house.scheme().rule(name)
            conditions, given = at(rule, things)
            self.assertEqual((kind, type(things), len(things), given), ("rule", tuple, len(rule.variables), holding))
            self.assertLess(max(rounds[condition] for condition in conditions), rounds[holding])
            self.things_fit(house, children, rule, things)
        elif holding in house.held():
            self.assertEqual(reason, ("held",))
        else:
            x, word, y = holding
            made = {name: (maker, making) for maker, making, name in children}
            name = y if made.get(y, ("",))[0] == x else x
            self.assertEqual(reason, ("made", name))
            maker, making = made[name]
            self.assertEqual({x, y}, {maker, name})
            self.assertIn(word, making.down if name == y else making.up)

    def things_fit(self, house, children, rule, things):
        rows = {name: (sort, awake) for name, sort, awake in things_with_sorts(house)}
        rows.update({name: (making.made, True) for maker, making, name in children})
        for (variable, sort), thing in zip(rule.variables, things):
            self.assertIn(sort, (None, rows[thing][0]))
            if variable == rule.by:
                self.assertIs(rows[thing][1], True)

    def way_fits(self, house, finish, rounds, children):
        way = finish.way()
        self.assertIs(type(way), list)
        makes = [("make", maker, making.made, name) for maker, making, name in children]
        later = sorted((rounds[holding], holding) for holding in rounds if rounds[holding] > 0)
        reasons = [finish.reason(*holding) for number, holding in later]
        self.assertEqual(way, makes + [("do", rule, things) for kind, rule, things in reasons])
        self.assertIsNone(first_refused(house, way))
        end = finish.end()
        self.assertIsInstance(end, House)
        self.assertEqual(shown(end), shown(after(house, way)))
        self.assertEqual((end.things(), end.held()), (finish.things(), finish.held()))
        self.assertEqual(told_lists(end.scheme()), told_lists(house.scheme()))


class Made(FinishCase):
    def test_the_documents_example(self):
        scheme = made_scheme()
        makings = [Making("lord", "box", [], []), Making("lord", "bag", [], []), Making("box", "bag", [], [])]
        for row in [makings, [makings[2], makings[0], makings[1]], [makings[0], makings[2], makings[1]]]:
            finish = Finish(house_of(Scheme(scheme.sorts(), scheme.words(), row), "ann:lord"))
            self.assertEqual(finish.things(), ["ann", "m1", "m2", "m3"])
            self.assertEqual(finish.child("ann", "box"), "m1")
            self.assertEqual(finish.child("ann", "bag"), "m2")
            self.assertEqual(finish.child("m1", "bag"), "m3")

    def test_the_order_of_makings_is_the_schemes(self):
        makings = [Making("lord", "bag", [], []), Making("box", "bag", [], []), Making("lord", "box", [], [])]
        finish = Finish(house_of(Scheme(["lord", "box", "bag"], ["own"], makings), "ann:lord"))
        self.assertEqual(finish.child("ann", "bag"), "m1")
        self.assertEqual(finish.child("ann", "box"), "m2")
        self.assertEqual(finish.child("m2", "bag"), "m3")
        self.assertEqual(finish.way(), [("make", "ann", "bag", "m1"), ("make", "ann", "box", "m2"),
                                        ("make", "m2", "bag", "m3")])

    def test_made_things_come_behind_all_of_the_house(self):
        finish = Finish(house_of(made_scheme(), "ann:lord crate:box bob:lord sack:bag"))
        self.assertEqual(finish.things(), ["ann", "crate", "bob", "sack", "m1", "m2", "m3", "m4", "m5", "m6", "m7"])
        rows = {("ann", "box"): "m1", ("ann", "bag"): "m2", ("crate", "bag"): "m3", ("bob", "box"): "m4",
                ("bob", "bag"): "m5", ("m1", "bag"): "m6", ("m4", "bag"): "m7"}
        for name in finish.things():
            for sort in ["lord", "box", "bag"]:
                self.assertEqual(finish.child(name, sort), rows.get((name, sort)))
                self.assertEqual(finish.child(sort=sort, name=name), rows.get((name, sort)))

    def test_names_that_things_of_the_house_have_already(self):
        finish = Finish(house_of(made_scheme(), "m2:lord m1:bag m5:bag"))
        self.assertEqual(finish.things(), ["m2", "m1", "m5", "m3", "m4", "m6"])
        self.assertEqual(finish.child("m2", "box"), "m3")
        self.assertEqual(finish.child("m2", "bag"), "m4")
        self.assertEqual(finish.child("m3", "bag"), "m6")
        finish = Finish(house_of(made_scheme(), "m01:bag m0:bag m:bag m11:bag m3:box"))
        self.assertEqual(finish.things()[5:], ["m1"])

    def test_things_asleep_make_nothing(self):
        finish = Finish(house_of(made_scheme(), "-ann:lord -crate:box sack:bag"))
        self.assertEqual(finish.things(), ["ann", "crate", "sack"])
        self.assertEqual([finish.child(name, "bag") for name in finish.things()], [None, None, None])
        finish = Finish(house_of(made_scheme(), "-ann:lord crate:box"))
        self.assertEqual(finish.things(), ["ann", "crate", "m1"])
        self.assertEqual(finish.child("crate", "bag"), "m1")

    def test_an_empty_house(self):
        finish = Finish(House(made_scheme()))
        self.assertEqual((finish.things(), finish.held(), finish.way()), ([], [], []))
        self.assertEqual(shown(finish.end()), ([], [], 0))

    def test_child_is_refused(self):
        finish = Finish(made_house())
        self.refused_in_turn(finish.child, {"name": "m4", "sort": "king"}, [
            ("NoThing", ["m4"], {"name": "m3"}),
            ("NoSort", ["king"], {"sort": "bag"}),
        ])
        for name in ["", "eve", "box", "M1"]:
            self.refused("NoThing", [name], finish.child, name, "box")
        for sort in ["", "Box", "m1", "own"]:
            self.refused("NoSort", [sort], finish.child, "ann", sort)

    def test_words_of_the_makings_stand_in_round_0(self):
        finish = Finish(made_house())
        self.assertEqual(finish.things(), ["ann", "bob", "m1", "m2", "m3"])
        for holding, reason in [
            (("ann", "know", "bob"), ("held",)),
            (("ann", "own", "m1"), ("made", "m1")), (("ann", "use", "m1"), ("made", "m1")),
            (("m2", "know", "ann"), ("made", "m2")),
            (("m1", "own", "m3"), ("made", "m3")), (("m3", "know", "m1"), ("made", "m3")),
        ]:
            self.assertEqual(finish.round_of(*holding), 0)
            self.assertEqual(finish.reason(*holding), reason)
        self.assertEqual(finish.round_of("ann", "own", "m3"), 1)
        self.assertEqual(finish.reason("ann", "own", "m3"), ("rule", "pass", ("ann", "m1", "m3")))
        self.assertEqual(finish.round_of("bob", "use", "m1"), 1)
        self.assertIsNone(finish.round_of("bob", "know", "ann"))
        self.assertEqual(finish.round_of("m1", "know", "ann"), None)


class Crowd(FinishCase):
    def crowded(self, count, house):
        before = shown(house)
        self.refused("Crowded", [count], Finish, house)
        self.refused("Crowded", [count], Finish, without=[], house=house)
        self.assertEqual(shown(house), before)

    def test_twenty_four_things_and_one_more(self):
        scheme = made_scheme()
        house = many_of(scheme, "lord", 6)
        self.assertEqual(len(Finish(house).things()), 24)
        house.enter("sack", "bag")
        self.crowded(25, house)
        house.sleep("t3")
        self.assertEqual(len(Finish(house).things()), 22)
        house.enter("crate", "box")
        self.assertEqual(len(Finish(house).things()), 24)
        house.enter("chest", "box", False)
        self.crowded(25, house)

    def test_without_makings(self):
        scheme = Scheme(["s"], ["own"])
        for many in [1, 23, 24]:
            self.assertEqual(len(Finish(many_of(scheme, "s", many)).things()), many)
        for many in [25, 26, 60]:
            self.crowded(many, many_of(scheme, "s", many))
            self.crowded(many, many_of(scheme, "s", many, asleep=many))

    def test_sixty_things_with_many_makings(self):
        for asleep in [0, 1, 17, 59, 60]:
            self.crowded(60 + 7 * (60 - asleep), many_of(full_makings(), "s0", 60, asleep))
            self.crowded(60 + 3 * (60 - asleep), many_of(full_makings(), "s1", 60, asleep))
            self.crowded(60 + 1 * (60 - asleep), many_of(full_makings(), "s2", 60, asleep))
            self.crowded(60, many_of(full_makings(), "s3", 60, asleep))

    def test_the_count_is_that_of_the_plain_reckoning(self):
        for many, asleep in [(1, 0), (2, 0), (3, 0), (4, 0), (4, 1), (9, 5), (10, 8), (11, 9), (24, 24)]:
            house = many_of(full_makings(), "s0", many, asleep)
            count = many + len(plain_children(house))
            if count <= 24:
                self.fits_house(house, Finish(house))
            else:
                self.crowded(count, house)


class Rounds(FinishCase):
    def test_step_by_step(self):
        finish = Finish(line_house())
        for x, y in itertools.product("abcde", "abcde"):
            steps = ord(y) - ord(x)
            self.assertEqual(finish.round_of(x, "far", y), steps if steps > 0 else None)
            self.assertEqual(finish.round_of(word="far", y=y, x=x), steps if steps > 0 else None)
            self.assertEqual(finish.round_of(x, "next", y), 0 if steps == 1 else None)
        self.assertEqual(finish.reason("a", "far", "c"), ("rule", "on", ("a", "b", "c")))
        self.assertEqual(finish.reason(y="b", word="far", x="a"), ("rule", "first", ("a", "b")))
        self.assertEqual(finish.reason("a", "next", "b"), ("held",))
        self.fits_house(line_house(), finish)

    def test_the_way_by_rounds_and_by_holdings(self):
        self.assertEqual(Finish(line_house()).way(), [
            ("do", "first", ("a", "b")), ("do", "first", ("b", "c")), ("do", "first", ("c", "d")),
            ("do", "first", ("d", "e")),
            ("do", "on", ("a", "b", "c")), ("do", "on", ("b", "c", "d")), ("do", "on", ("c", "d", "e")),
            ("do", "on", ("a", "c", "d")), ("do", "on", ("b", "d", "e")),
            ("do", "on", ("a", "d", "e")),
        ])

    def test_what_stands_already_keeps_round_0(self):
        house = line_house()
        house.give("a", "far", "d")
        finish = Finish(house)
        self.assertEqual(finish.round_of("a", "far", "d"), 0)
        self.assertEqual(finish.round_of("a", "far", "e"), 1)
        self.assertEqual(finish.round_of("a", "far", "c"), 2)
        self.fits_house(house, finish)

    def test_the_hand_has_to_be_awake(self):
        house = line_house()
        house.sleep("a")
        finish = Finish(house)
        self.assertIsNone(finish.round_of("a", "far", "b"))
        self.assertEqual(finish.round_of("b", "far", "e"), 3)
        house.sleep("c")
        self.assertEqual(Finish(house).round_of("b", "far", "e"), 3)
        self.fits_house(house, Finish(house))

    def test_one_thing_for_several_variables(self):
        scheme = Scheme(["s"], ["own", "use"], None, [
            rule_of("all", "a b c d", "a own b, b own c, c own d", "d use a", "c"),
            rule_of("self", "a", "a use a", "a own a", "a"),
            rule_of("tie", "a b", "a own a, a own b", "b own b", "a"),
        ])
        held = "ann own ann, ann own bob, bob use bob, cat use cat, cat own cat"
        house = house_of(scheme, "ann:s bob:s -cat:s", held)
        finish = Finish(house)
        self.assertEqual(finish.round_of("ann", "use", "ann"), 1)
        self.assertEqual(finish.round_of("bob", "own", "bob"), 1)
        self.fits_house(house, finish)

    def test_against_a_plain_reckoning(self):
        deepest = made = 0
        for seed in range(250):
            lot = random.Random(seed)
            house = house_by_lot(lot, scheme_by_lot(lot), 4, 10)
            with self.subTest(seed=seed):
                finish = Finish(house)
                self.fits_house(house, finish)
                deepest = max(deepest, max(plain_rounds(house).values(), default=0))
                made += len(finish.things()) - len(house)
        self.assertGreater(deepest, 2)
        self.assertGreater(made, 200)

    def test_long_rules_against_a_plain_reckoning(self):
        for seed in range(40):
            lot = random.Random(seed)
            words = ["own", "use", "know"]
            rules = []
            for number in range(3):
                names = list("abcd")
                lot.shuffle(names)
                a, b, c, d = names
                shapes = [[(a, b), (b, c), (c, d)], [(a, b), (c, b), (b, d)], [(b, a), (c, b), (d, c)],
                          [(a, b), (a, c), (d, a)]]
                conditions = ", ".join(f"{x} {lot.choice(words)} {y}" for x, y in lot.choice(shapes))
                gives = f"{lot.choice(names)} {lot.choice(words)} {lot.choice(names)}"
                rules.append(rule_of("r" + str(number), "a b c d", conditions, gives, lot.choice(names)))
            house = house_by_lot(lot, Scheme(["lord", "box", "bag"], words, None, rules), 5, 9)
            with self.subTest(seed=seed):
                self.fits_house(house, Finish(house))

    def test_round_of_and_reason_are_refused(self):
        finish = Finish(made_house())
        steps = [
            ("NoThing", ["eve"], {"x": "m2"}), ("NoThing", ["Joe"], {"y": "bob"}), ("NoWord", ["eat"], {"word": "own"}),
        ]
        start = {"x": "eve", "word": "eat", "y": "Joe"}
        self.assertIsNone(self.refused_in_turn(finish.round_of, start, steps))
        steps.append(("Never", ["m2", "own", "bob"], {"x": "ann", "word": "know"}))
        self.assertEqual(self.refused_in_turn(finish.reason, start, steps), ("held",))
        for name in ["m4", "m0", "lord", "own", ""]:
            self.refused("NoThing", [name], finish.round_of, name, "own", "ann")
            self.refused("NoThing", [name], finish.reason, "ann", "own", name)


class Without(FinishCase):
    def test_one_holding_and_what_rests_on_it(self):
        house = line_house()
        finish = Finish(house, [("a", "far", "c")])
        self.assertIsNone(finish.round_of("a", "far", "c"))
        self.assertIsNone(finish.round_of("a", "far", "d"))
        self.assertIsNone(finish.round_of("a", "far", "e"))
        self.assertEqual(finish.round_of("b", "far", "e"), 3)
        self.refused("Never", ["a", "far", "c"], finish.reason, "a", "far", "c")
        self.fits_house(house, finish, [("a", "far", "c")])

    def test_several_holdings(self):
        house = line_house()
        without = [("a", "far", "c"), ("c", "far", "d"), ("a", "far", "c"), ("e", "far", "a")]
        finish = Finish(house, without)
        self.assertEqual(finish.held(), sorted(house.held() + [
            ("a", "far", "b"), ("b", "far", "c"), ("b", "far", "d"), ("b", "far", "e"), ("d", "far", "e"),
        ]))
        self.fits_house(house, finish, without)

    def test_a_later_round_by_another_rule(self):
        scheme = Scheme(["s"], ["own", "use", "know"], None, [
            rule_of("short", "a b", "a own b", "a use b", "a"),
            rule_of("long", "a b", "a own b", "a know b", "a"),
            rule_of("more", "a b", "a know b", "a use b", "a"),
            rule_of("ring", "a b", "a use b", "b use a", "a"),
        ])
        house = house_of(scheme, "ann:s bob:s", "ann own bob")
        self.assertEqual(Finish(house).round_of("bob", "use", "ann"), 2)
        finish = Finish(house, [("ann", "know", "bob")])
        self.assertEqual(finish.round_of("bob", "use", "ann"), 2)
        finish = Finish(house, [("ann", "use", "bob")])
        self.assertIsNone(finish.round_of("bob", "use", "ann"))
        self.assertEqual(finish.round_of("ann", "know", "bob"), 1)
        for without in [[("ann", "know", "bob")], [("ann", "use", "bob")], [("bob", "use", "ann")]]:
            self.fits_house(house, Finish(house, without), without)

    def test_a_holding_comes_later_without_its_shorter_way(self):
        house = line_house()
        house.give("b", "next", "d")
        self.assertEqual(Finish(house).round_of("a", "far", "d"), 2)
        self.assertEqual(Finish(house).round_of("a", "far", "e"), 3)
        house.give("a", "next", "c")
        house.take("b", "next", "d")
        without = [("a", "far", "b")]
        self.assertEqual(Finish(house).round_of("a", "far", "c"), 1)
        self.assertEqual(Finish(house, without).round_of("a", "far", "c"), 1)
        house.give("b", "next", "e")
        self.assertEqual(Finish(house).round_of("a", "far", "e"), 2)
        self.assertEqual(Finish(house, without).round_of("a", "far", "e"), 3)
        self.fits_house(house, Finish(house, without), without)

    def test_none_and_nothing(self):
        house = made_house()
        for finish in [Finish(house), Finish(house, None), Finish(house, []), Finish(without=None, house=house)]:
            self.fits_house(house, finish)

    def test_makings_stay(self):
        house = made_house()
        without = [("bob", "know", "ann"), ("ann", "own", "bob")]
        self.fits_house(house, Finish(house, without), without)

    def test_against_a_plain_reckoning(self):
        kept = 0
        for seed in range(120):
            lot = random.Random(seed)
            house = house_by_lot(lot, scheme_by_lot(lot), 4, 14)
            free = [triple for triple in Finish(house).held() if not set(triple[::2]) - set(house.things())]
            free = [triple for triple in free if triple not in house.held()]
            without = lot.sample(free, min(len(free), lot.randint(1, 3)))
            kept += len(without)
            with self.subTest(seed=seed, without=without):
                self.fits_house(house, Finish(without=list(without), house=house), without)
        self.assertGreater(kept, 40)

    def test_refused_in_turn(self):
        house = many_of(made_scheme(), "lord", 7)
        house.give("t0", "own", "t1")
        before = shown(house)
        good = ("t1", "own", "t0")
        last = ("joe", "eat", "joe")
        for holding, kind, fields in [
            (("eve", "eat", "m1"), "NoThing", ["eve"]),
            (("t0", "eat", "m1"), "NoThing", ["m1"]),
            (("t0", "eat", "t1"), "NoWord", ["eat"]),
            (("t0", "own", "t1"), "Stands", ["t0", "own", "t1"]),
            (("t0", "use", "t1"), "NoThing", ["joe"]),
        ]:
            with self.subTest(holding=holding):
                self.refused(kind, fields, Finish, house, [good, holding, last])
        self.refused("Crowded", [28], Finish, house, [good])
        self.refused("Stands", ["t0", "own", "t1"], Finish, house, [good, ("t0", "own", "t1")])
        self.refused("Stands", ["t0", "own", "t1"], Finish, house, [("t0", "own", "t1"), ("eve", "own", "t1")])
        self.assertEqual(shown(house), before)

    def test_refused_alone(self):
        house = made_house()
        self.refused("NoThing", ["m1"], Finish, house, [("m1", "own", "ann")])
        self.refused("NoThing", ["m1"], Finish, house, [("ann", "own", "m1")])
        self.refused("NoWord", ["Own"], Finish, house, [("ann", "Own", "bob")])
        self.refused("Stands", ["ann", "know", "bob"], Finish, house, [("ann", "know", "bob")])
        self.refused("Stands", ["ann", "know", "bob"], Finish, without=[("ann", "know", "bob")], house=house)
        house.take("ann", "know", "bob")
        self.assertEqual(Finish(house, [("ann", "know", "bob")]).round_of("ann", "know", "bob"), None)


class Kept(FinishCase):
    def test_behind_changes_of_its_house(self):
        house = made_house()
        without = [("bob", "own", "ann")]
        finish = Finish(house, without)
        before = all_told(finish)
        house.wake("bob")
        house.sleep("ann")
        house.enter("m1", "box")
        house.give("bob", "own", "ann")
        house.take("ann", "know", "bob")
        play(house, ("make", "bob", "bag", "m2"))
        without.append(("ann", "own", "m1"))
        without.clear()
        self.assertEqual(all_told(finish), before)
        self.assertEqual(all_told(Finish(made_house(), [("bob", "own", "ann")])), before)
        self.fits_house(house, Finish(house))

    def test_lists_and_houses_told_are_the_askers_own(self):
        house = made_house()
        finish = Finish(house)
        before = all_told(finish)
        for told in [finish.things(), finish.held(), finish.way()]:
            self.assertIs(type(told), list)
            told.reverse()
            told.clear()
            told.append("more")
        end = finish.end()
        end.enter("eve", "lord")
        end.sleep("ann")
        end.take("ann", "know", "bob")
        self.assertEqual(all_told(finish), before)
        self.assertEqual(shown(house), shown(made_house()))

    def test_without_is_left_as_it_is(self):
        without = [("bob", "own", "ann"), ("ann", "own", "ann")]
        Finish(made_house(), without).way()
        self.assertEqual(without, [("bob", "own", "ann"), ("ann", "own", "ann")])

    def test_the_end_of_a_house_with_some_asleep(self):
        end = Finish(made_house()).end()
        self.assertEqual([end.is_awake(name) for name in end.things()], [True, False, True, True, True])
        self.assertEqual([end.sort_of(name) for name in end.things()], ["lord", "lord", "box", "bag", "bag"])

    def test_a_finished_house_brings_nothing_new(self):
        for seed in range(40):
            lot = random.Random(seed)
            house = house_by_lot(lot, scheme_by_lot(lot, makings=False), 4, 9)
            finish = Finish(house)
            again = Finish(finish.end())
            self.assertEqual((again.things(), again.held(), again.way()), (finish.things(), finish.held(), []))


if __name__ == "__main__":
    unittest.main()
