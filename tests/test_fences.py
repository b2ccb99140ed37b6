"""Fences (point 42)."""

import itertools
import random
import unittest

from tests.helper import (
    RefusalCase, all_triples, at, house_by_lot, house_of, made_scheme, played_by_lot, rule_of, scheme_by_lot, shown,
    small_house, told_lists,
)
from whomay.deeds import after, play
from whomay.fences import fence, sorts_held
from whomay.finish import Finish
from whomay.houses import House
from whomay.patterns import Making
from whomay.schemes import Scheme


def plain_fence(scheme, start):
    """Going round as the point tells it."""
    found = set(start)
    for making in scheme.makings():
        found.update((making.maker, word, making.made) for word in making.down)
        found.update((making.made, word, making.maker) for word in making.up)
    while True:
        new = set()
        for rule in scheme.rules():
            free = [scheme.sorts() if sort is None else [sort] for name, sort in rule.variables]
            for row in itertools.product(*free):
                conditions, given = at(rule, row)
                if found.issuperset(conditions):
                    new.add(given)
        if new <= found:
            return sorted(found)
        found |= new


class Fences(RefusalCase):
    def test_without_rules_and_makings(self):
        scheme = Scheme(["lord", "box"], ["own", "use"])
        self.assertEqual(fence(scheme, []), [])
        start = [("lord", "use", "box"), ("box", "own", "lord"), ("lord", "use", "box"), ("box", "own", "lord")]
        self.assertEqual(fence(scheme, start), [("box", "own", "lord"), ("lord", "use", "box")])

    def test_words_of_makings(self):
        makings = [Making("lord", "box", ["use", "own"], ["own"]), Making("box", "bag", [], ["use"])]
        scheme = Scheme(["lord", "box", "bag"], ["own", "use"], makings)
        self.assertEqual(fence(scheme, []), [
            ("bag", "use", "box"), ("box", "own", "lord"), ("lord", "own", "box"), ("lord", "use", "box"),
        ])
        self.assertEqual(fence(scheme, [("bag", "own", "bag")])[0], ("bag", "own", "bag"))

    def test_rules_with_several_rows_of_sorts(self):
        rules = [rule_of("turn", "a b", "a own b", "b use a", "a"), rule_of("on", "a b c:box", "a use b, b use c", "a own c", "b")]
        scheme = Scheme(["lord", "box"], ["own", "use"], None, rules)
        self.assertEqual(fence(scheme, [("lord", "own", "box")]), [("box", "use", "lord"), ("lord", "own", "box")])
        self.assertEqual(fence(scheme, [("lord", "own", "box"), ("lord", "own", "lord")]), [
            ("box", "use", "lord"), ("lord", "own", "box"), ("lord", "own", "lord"), ("lord", "use", "lord"),
        ])
        everything = sorted(all_triples(["lord", "box"], ["own", "use"]))
        self.assertEqual(fence(scheme, everything), everything)
        self.assertEqual(fence(scheme, [("box", "own", "box")]), [("box", "own", "box"), ("box", "use", "box")])

    def test_what_one_rule_brings_helps_one_ahead_of_it(self):
        rules = [
            rule_of("three", "a b", "a r b", "b p a", "a"), rule_of("two", "a b", "a q b", "a r b", "a"),
            rule_of("one", "a b", "a p b", "a q b", "a"),
        ]
        scheme = Scheme(["s", "t"], ["p", "q", "r"], None, rules)
        self.assertEqual(fence(scheme, [("s", "p", "t")]), sorted(
            [("s", word, "t") for word in "pqr"] + [("t", word, "s") for word in "pqr"]
        ))

    def test_who_is_awake_is_not_asked(self):
        rule = rule_of("r", "a b", "a own b", "b own a", "b")
        scheme = Scheme(["s", "t"], ["own"], None, [rule])
        self.assertEqual(fence(scheme, [("s", "own", "t")]), [("s", "own", "t"), ("t", "own", "s")])

    def test_kinds_of_values_and_nothing_changed(self):
        scheme = made_scheme()
        start = [("lord", "know", "lord")]
        before = told_lists(scheme)
        told = fence(start=start, scheme=scheme)
        self.assertEqual((type(told), {type(row) for row in told}), (list, {tuple}))
        self.assertEqual(told, plain_fence(scheme, start))
        told.clear()
        self.assertEqual(fence(scheme, start), plain_fence(scheme, start))
        self.assertEqual((start, told_lists(scheme)), ([("lord", "know", "lord")], before))

    def test_refusals_in_turn(self):
        scheme = made_scheme()
        good = ("lord", "own", "box")
        bad = [
            ("NoSort", "king", ("king", "eat", "pope")), ("NoSort", "pope", ("lord", "eat", "pope")),
            ("NoWord", "eat", ("lord", "eat", "lord")),
        ]
        for kind, name, triple in bad:
            for start in ([triple], [triple, good], [good, triple], [good, good, triple, good]):
                self.refused(kind, [name], fence, scheme, start)
            # Triple by triple: an earlier one's word ahead of a later one's sort.
            for later in bad:
                self.refused(kind, [name], fence, scheme, [good, triple, later[2]])
        self.refused("NoSort", [""], fence, scheme, [("", "", "")])
        self.refused("NoSort", ["Lord"], fence, scheme, [("lord", "own", "Lord")])

    def test_against_a_plain_going_round(self):
        sizes = set()
        for seed in range(200):
            lot = random.Random(seed)
            scheme = scheme_by_lot(lot)
            triples = all_triples(scheme.sorts(), scheme.words())
            start = [lot.choice(triples) for number in range(lot.randint(0, 6))]
            with self.subTest(seed=seed):
                told = fence(scheme, start)
                self.assertEqual(told, plain_fence(scheme, start))
                self.assertEqual(fence(scheme, told), told)
                self.assertEqual(fence(scheme, told[::-1] + start), told)
            sizes.add(len(told) - len(set(start)))
        self.assertGreater(len(sizes), 10)

    def test_the_largest(self):
        sorts, words = ["s0", "s1", "s2", "s3"], ["a", "b", "c", "d", "e"]
        rules = [
            rule_of("r" + str(number), "p q r s", "p {0} q, q {0} r, r {0} s".format(words[number % 5]),
                    "s {} p".format(words[(number + 1) % 5]), "p")
            for number in range(8)
        ]
        scheme = Scheme(sorts, words, None, rules)
        start = [("s0", "a", "s1"), ("s1", "a", "s2"), ("s2", "a", "s3"), ("s3", "a", "s0")]
        self.assertEqual(fence(scheme, start), plain_fence(scheme, start))


class SortsHeld(RefusalCase):
    def test_each_once_and_sorted(self):
        house = small_house()
        before = shown(house)
        wanted = [("lord", "know", "lord"), ("lord", "own", "box"), ("lord", "use", "lord")]
        self.assertEqual(sorts_held(house), wanted)
        house.give("ann", "own", "crate")
        house.give("bag1", "own", "bag1")
        self.assertEqual(sorts_held(house=house), [("bag", "own", "bag")] + wanted)
        house.take("bag1", "own", "bag1")
        house.take("ann", "own", "crate")
        sorts_held(house).clear()
        self.assertEqual((sorts_held(house), shown(house)), (wanted, before))
        self.assertEqual({type(row) for row in sorts_held(house)}, {tuple})

    def test_a_house_without_things(self):
        self.assertEqual(sorts_held(House(made_scheme())), [])
        self.assertEqual(sorts_held(house_of(made_scheme(), "ann:lord")), [])

    def test_no_deed_leads_out(self):
        brought = 0
        for seed in range(150):
            lot = random.Random(seed)
            house = house_by_lot(lot, scheme_by_lot(lot))
            start = sorts_held(house)
            triples = all_triples(house.scheme().sorts(), house.scheme().words())
            wide = fence(house.scheme(), start + lot.sample(triples, lot.randint(0, 2)))
            later = after(house, played_by_lot(lot, house, play))
            with self.subTest(seed=seed):
                self.assertLessEqual(set(sorts_held(later)), set(fence(house.scheme(), start)))
                self.assertLessEqual(set(sorts_held(later)), set(wide))
                self.assertLessEqual(set(sorts_held(Finish(house).end())), set(fence(house.scheme(), start)))
            brought += len(set(sorts_held(later)) - set(start))
        self.assertGreater(brought, 100)


if __name__ == "__main__":
    unittest.main()
