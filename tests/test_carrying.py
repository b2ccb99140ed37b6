"""Deeds carried over to another scheme (point 40)."""

import random
import unittest

from tests.helper import (
    RefusalCase, few_words_by_lot, few_words_house_by_lot, house_of, many_of, moved, plain_children, played_by_lot,
    rule_of, shown, told_lists, with_rules,
)
from whomay.carrying import translated
from whomay.compare import freer
from whomay.deeds import after, first_refused, play
from whomay.patterns import Making
from whomay.schemes import Scheme

SORTS = ["lord", "box"]
WORDS = ["own", "use", "know"]


def scheme_with(rules, makings=None):
    return Scheme(SORTS, WORDS, makings, rules)


def lending():
    return rule_of("lend", "a b c", "a own c, a know b", "b use c", "a")


def in_two_steps():
    return [
        rule_of("first", "a c", "a own c", "a use c", "a"),
        rule_of("then", "a b c", "a use c, a know b", "b use c", "a"),
    ]


def by_a_box():
    """Lending by way of a box that is made for it."""
    return [
        rule_of("put", "a c d:box", "a own c, a own d", "d own c", "a"),
        rule_of("reach", "a b d:box", "a own d, a know b", "b know d", "a"),
        rule_of("pick", "b c d:box", "b know d, d own c", "b use c", "d"),
    ]


def boxes(down=("own",)):
    return [Making("lord", "box", list(down), [])]


def lords_lending():
    return scheme_with([rule_of("lend", "a:lord b c", "a own c, a know b", "b use c", "a")], boxes())


def gem_house():
    return house_of(lords_lending(), "ann:lord bob:lord -gem:lord", "ann own gem, ann know bob")


class Carrying(RefusalCase):
    def carried_over(self, house, deeds, other):
        """All that point 40 says of the told deeds; they are told."""
        before, kept = shown(house), list(deeds)
        schemes = [told_lists(house.scheme()), told_lists(other)]
        told = translated(house, deeds, other)
        self.assertIs(type(told), list)
        self.assertEqual((shown(house), deeds), (before, kept))
        self.assertEqual([told_lists(house.scheme()), told_lists(other)], schemes)
        start = moved(house, other)
        self.assertIsNone(first_refused(start, told))
        end, wanted = after(start, told), after(house, deeds)
        self.assertLessEqual(set(wanted.held()), set(end.held()))
        for name in wanted.things():
            self.assertEqual(end.sort_of(name), wanted.sort_of(name))
        makes = [deed for deed in deeds if deed[0] == "make"]
        for deed in makes:
            self.assertEqual(told.count(deed), 1)
        only_made = after(house, makes)
        self.assertLessEqual(len(end), len(only_made) + len(plain_children(only_made)))
        self.assertNotIn("drop", [deed[0] for deed in told])
        told_again = translated(house, deeds, other)
        told_again.clear()
        self.assertEqual(translated(house, deeds, other), told)
        return told

    def test_one_deed_for_two(self):
        house = house_of(scheme_with([lending()]), "ann:lord -bob:lord crate:box", "ann own crate, ann know bob")
        told = self.carried_over(house, [("do", "lend", ("ann", "bob", "crate"))], scheme_with(in_two_steps()))
        self.assertEqual(told, [("do", "first", ("ann", "crate")), ("do", "then", ("ann", "bob", "crate"))])

    def test_no_deeds(self):
        house = house_of(scheme_with([lending()]), "ann:lord bob:lord", "ann own bob")
        self.assertEqual(self.carried_over(house, [], scheme_with(in_two_steps())), [])
        self.assertEqual(self.carried_over(house_of(scheme_with([]), ""), [], scheme_with([])), [])

    def test_the_same_scheme(self):
        scheme = scheme_with([lending()], boxes())
        house = house_of(scheme, "ann:lord bob:lord", "ann know bob")
        deeds = [("make", "ann", "box", "crate"), ("do", "lend", ("ann", "bob", "crate"))]
        self.assertEqual(self.carried_over(house, deeds, scheme), deeds)

    def test_drops_among_the_deeds(self):
        house = house_of(scheme_with([lending()]), "ann:lord bob:lord crate:box", "ann own crate, ann know bob")
        deeds = [
            ("do", "lend", ("ann", "bob", "crate")), ("drop", "ann", "own", "crate"), ("drop", "ann", "know", "bob"),
        ]
        self.carried_over(house, deeds, scheme_with(in_two_steps()))
        # What is let go at the end need not come about, what was there stays.
        deeds.append(("drop", "bob", "use", "crate"))
        self.assertEqual(self.carried_over(house, deeds, scheme_with(in_two_steps())), [])

    def test_drop_and_do_again(self):
        house = house_of(scheme_with([lending()]), "ann:lord bob:lord crate:box", "ann own crate, ann know bob")
        again = [("do", "lend", ("ann", "bob", "crate")), ("drop", "bob", "use", "crate")] * 3
        self.carried_over(house, again + again[:1], scheme_with(in_two_steps()))

    def test_made_under_names_that_the_finished_house_would_give(self):
        other = scheme_with(by_a_box(), boxes())
        self.assertEqual(freer(scheme_with([lending()], boxes()), other), ("lend", ("box", "lord", "lord")))
        self.assertIsNone(freer(lords_lending(), other))
        for names in (["m1", "m2"], ["m2", "m1"], ["m3"], ["m1", "x", "m2"], []):
            deeds = [("make", "bob", "box", name) for name in names]
            deeds.append(("do", "lend", ("ann", "bob", "gem")))
            told = self.carried_over(gem_house(), deeds, other)
            self.assertEqual(told[:len(names)], deeds[:-1])
            # Ann has to make a box besides.
            self.assertEqual(len([deed for deed in told if deed[0] == "make"]), len(names) + 1)
            # Where she made one of her own, that one will do.
            own = [("make", "ann", "box", name) for name in names]
            told = self.carried_over(gem_house(), own + deeds[-1:], other)
            self.assertEqual(len([deed for deed in told if deed[0] == "make"]), max(len(names), 1))

    def test_several_makings_of_one_maker(self):
        makings = boxes(["own", "use"])
        one = scheme_with([rule_of("swap", "a:lord c:box d:box", "a own c, a use d", "c know d", "a")], makings)
        other = scheme_with([
            rule_of("mark", "a:lord c:box", "a own c", "c know c", "a"),
            rule_of("swap", "a:lord c:box d:box", "c know c, a own c, a use d", "c know d", "a"),
        ], makings)
        house = house_of(one, "ann:lord")
        deeds = [("make", "ann", "box", name) for name in ("m2", "b", "m1", "c")]
        deeds[2:2] = [("do", "swap", ("ann", "m2", "b"))]
        deeds.extend([("do", "swap", ("ann", "c", "m1")), ("do", "swap", ("ann", "m1", "c")), ("drop", "ann", "own", "c")])
        told = self.carried_over(house, deeds, other)
        self.assertEqual(len(told), 4 + 3 + 3)

    def test_deeds_that_rest_on_made_things(self):
        makings = [Making("lord", "box", ["own"], []), Making("box", "bag", ["own"], ["know"])]
        rules = [
            rule_of("up", "a b c", "a own b, b own c", "a own c", "a"),
            rule_of("tell", "a b c", "a own b, b know c", "a know c", "b"),
        ]
        one = Scheme(["lord", "box", "bag"], WORDS, makings, rules)
        other = Scheme(["lord", "box", "bag"], WORDS, makings, [
            rule_of("grab", "p q r", "p own q, q own r", "p own r", "p"),
            rule_of("hear", "p q r", "p own q, q know r", "p use r", "q"),
            rule_of("learn", "p q r", "p use r, p own q, q know r", "p know r", "q"),
        ])
        house = house_of(one, "ann:lord")
        deeds = [
            ("make", "ann", "box", "chest"), ("make", "chest", "bag", "m1"), ("do", "up", ("ann", "chest", "m1")),
            ("do", "tell", ("ann", "m1", "chest")), ("drop", "ann", "own", "m1"),
        ]
        told = self.carried_over(house, deeds, other)
        self.assertEqual(told[:3], [*deeds[:2], ("do", "grab", ("ann", "chest", "m1"))])
        self.assertIn(("do", "hear", ("ann", "m1", "chest")), told)

    def test_as_many_things_as_there_can_be(self):
        house, other = gem_house(), scheme_with(by_a_box(), boxes())
        deeds = [("make", "bob", "box", "n" + str(number)) for number in range(19)]
        deeds.append(("do", "lend", ("ann", "bob", "gem")))
        told = self.carried_over(house, deeds, other)
        self.assertEqual(len(after(moved(house, other), told)), 23)
        # With one more the finished house has 25 things: bob could make a box, too.
        more = [("make", "ann", "box", "last"), *deeds]
        self.refused("Crowded", [25], translated, house, more, other)

    def test_crowded_counts_what_the_deeds_make_alone(self):
        one = scheme_with([lending()], boxes())
        house = many_of(one, "lord", 12)
        self.assertEqual(translated(house, [], one), [])
        deeds = [("make", "t0", "box", "crate"), ("drop", "t0", "own", "crate")]
        self.refused("Crowded", [25], translated, house, deeds, one)
        self.refused("Crowded", [26], translated, many_of(one, "lord", 13), [], one)

    def test_refusals_in_turn(self):
        one = scheme_with([lending()], boxes())
        crowded = many_of(one, "lord", 13)
        bad = [("make", "t0", "box", "crate"), ("drop", "t0", "know", "t1"), ("jump",)]
        start = {"house": crowded, "deeds": bad, "other": Scheme(["lord", "bag"], ["eat"])}
        told = self.refused_in_turn(translated, start, [
            ("Unlike", ["sorts"], {"other": Scheme(SORTS, ["eat"])}),
            ("Unlike", ["words"], {"other": scheme_with(in_two_steps())}),
            ("Unlike", ["makings"], {"other": scheme_with(in_two_steps()[:1], boxes())}),
            ("Freer", ["lend", ("lord", "lord", "lord")], {"other": scheme_with(in_two_steps(), boxes())}),
            ("NotHeld", ["t0", "know", "t1"], {"deeds": bad[:1] + bad[2:]}),
            ("NoDeed", ["jump"], {"deeds": bad[:1]}),
            ("Crowded", [27], {"house": many_of(one, "lord", 11)}),
        ])
        self.assertEqual(told, bad[:1])

    def test_refused_as_the_deed_is(self):
        one = scheme_with([lending()], boxes())
        house = house_of(one, "ann:lord -bob:lord crate:box", "ann own crate, ann know bob")
        other = scheme_with(in_two_steps(), boxes())
        before = shown(house)
        good = ("do", "lend", ("ann", "bob", "crate"))
        for kind, fields, bad in [
            ("NoThing", ["eve"], ("make", "eve", "box", "b")), ("NoSort", ["bag"], ("make", "ann", "bag", "b")),
            ("Asleep", ["bob"], ("make", "bob", "box", "b")),
            ("NoMaking", ["box", "box"], ("make", "crate", "box", "b")),
            ("NoName", ["B"], ("make", "ann", "box", "B")), ("Taken", ["ann"], ("make", "ann", "box", "ann")),
            ("NoRule", ["first"], ("do", "first", ("ann", "crate"))), ("Misfit", ["lend"], ("do", "lend", ("ann",))),
            ("NotHeld", ["ann", "own", "ann"], ("do", "lend", ("ann", "bob", "ann"))), ("NoDeed", ["hop"], ("hop",)),
            ("NoWord", ["eat"], ("drop", "ann", "eat", "bob")),
        ]:
            self.refused(kind, fields, translated, house, [good, bad], other)
            self.refused(kind, fields, translated, house, [bad, ("jump",)], other)
        self.assertEqual(shown(house), before)

    def test_by_names_in_another_order(self):
        house = house_of(scheme_with([lending()]), "ann:lord -bob:lord crate:box", "ann own crate, ann know bob")
        deeds = [("do", "lend", ("ann", "bob", "crate"))]
        other = scheme_with(in_two_steps())
        self.assertEqual(translated(other=other, deeds=deeds, house=house), translated(house, deeds, other))

    def test_by_lot(self):
        done = resting = 0
        for seed in range(1500):
            lot = random.Random(seed)
            one, other = few_words_by_lot(lot), few_words_by_lot(lot)
            if lot.random() < 0.5:
                # Not the rules themselves, but a rule for each with another name and one more.
                other = with_rules(one, [*other.rules(), *named_anew(one.rules())][-8:])
            else:
                other = with_rules(one, other.rules())
            house = few_words_house_by_lot(lot, one)
            deeds = played_by_lot(lot, house, play, 6)
            if freer(one, other) is None:
                with self.subTest(seed=seed):
                    told = self.carried_over(house, deeds, other)
                done += 1
                resting += any(deed[0] == "do" for deed in told)
            else:
                self.refused("Freer", freer(one, other), translated, house, deeds, other)
        self.assertGreater(done, 400)
        self.assertGreater(resting, 60)

    def test_by_lot_with_things_made_besides(self):
        other = scheme_with(by_a_box(), boxes())
        besides = 0
        for seed in range(300):
            lot = random.Random(seed)
            house = few_words_house_by_lot(lot, lords_lending(), 10)
            deeds = played_by_lot(lot, house, play, 6)
            with self.subTest(seed=seed):
                told = self.carried_over(house, deeds, other)
            besides += len([deed for deed in told if deed not in deeds and deed[0] == "make"])
        self.assertGreater(besides, 5)


def named_anew(rules):
    texts = []
    for rule in rules:
        texts.append((rule.name.replace("r", "q"), rule.variables, rule.conditions, rule.gives, rule.by))
    return [type(rules[0])(*row) for row in texts]


if __name__ == "__main__":
    unittest.main()
