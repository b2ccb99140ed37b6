"""Points 18 and 19: where a pattern stands, and which deeds are open."""

import random
import unittest

from tests.helper import (
    SORTS, WORDS, RefusalCase, bar_of, house_by_lot, house_of, lend, plain_matches, plain_open, rule_by_lot,
    rule_of, scheme_by_lot, shown, small_house, things_with_sorts,
)
from whomay.deeds import first_refused, play
from whomay.houses import House
from whomay.matching import matches, open_deeds
from whomay.schemes import Scheme


def plain_house():
    return house_of(
        Scheme(SORTS, WORDS),
        "zed:lord ann:lord -bob:box cat:bag",
        "zed own ann, ann own bob, bob own zed, ann own cat, cat use cat, ann use ann, bob know cat, zed know cat",
    )


class Matches(RefusalCase):
    def test_each_tuple_sorted(self):
        house = plain_house()
        self.assertEqual(
            matches(house, bar_of("b", "x y", "x own y")),
            [("ann", "bob"), ("ann", "cat"), ("bob", "zed"), ("zed", "ann")],
        )
        self.assertEqual(matches(house, bar_of("b", "y x", "x own y")),
                         [("ann", "zed"), ("bob", "ann"), ("cat", "ann"), ("zed", "bob")])
        self.assertEqual(
            matches(house, bar_of("b", "x y z", "x own y, y own z")),
            [("ann", "bob", "zed"), ("bob", "zed", "ann"), ("zed", "ann", "bob"), ("zed", "ann", "cat")],
        )

    def test_sorts_are_asked(self):
        house = plain_house()
        self.assertEqual(matches(house, bar_of("b", "x:lord y", "x own y")),
                         [("ann", "bob"), ("ann", "cat"), ("zed", "ann")])
        self.assertEqual(matches(house, bar_of("b", "x:lord y:lord", "x own y")), [("zed", "ann")])
        self.assertEqual(matches(house, bar_of("b", "x y:bag", "x own y")), [("ann", "cat")])
        self.assertEqual(matches(house, bar_of("b", "x:bag y", "x own y")), [])

    def test_one_thing_for_several_variables(self):
        house = plain_house()
        self.assertEqual(matches(house, bar_of("b", "x y", "x use y")), [("ann", "ann"), ("cat", "cat")])
        self.assertEqual(matches(house, bar_of("b", "x y z", "x own y, y use z")),
                         [("ann", "cat", "cat"), ("zed", "ann", "ann")])
        self.assertEqual(matches(house, bar_of("b", "x y", "x know y, x know y")), [("bob", "cat"), ("zed", "cat")])

    def test_one_variable_at_both_ends(self):
        house = plain_house()
        self.assertEqual(matches(house, bar_of("b", "x", "x use x")), [("ann",), ("cat",)])
        self.assertEqual(matches(house, bar_of("b", "x:bag", "x use x")), [("cat",)])
        self.assertEqual(matches(house, bar_of("b", "x", "x own x")), [])
        self.assertEqual(matches(house, bar_of("b", "x y", "x own y, y use y")), [("ann", "cat"), ("zed", "ann")])
        self.assertEqual(matches(house, bar_of("b", "x y", "x use x, y own x")), [("ann", "zed"), ("cat", "ann")])

    def test_whether_things_are_awake_is_not_asked(self):
        house = plain_house()
        rule = rule_of("r", "x y", "x own y", "y own x", "x")
        before = matches(house, rule)
        for name in house.things():
            house.sleep(name)
        self.assertEqual(matches(house, rule), before)
        self.assertIn(("bob", "zed"), before)

    def test_a_rule_stands_where_its_conditions_do(self):
        house = plain_house()
        house.give("bob", "own", "ann")
        self.assertEqual(matches(house, rule_of("r", "x y", "x own y", "y own x", "x")),
                         matches(house, bar_of("b", "x y", "x own y")))

    def test_sorts_and_words_that_the_scheme_does_not_have(self):
        house = plain_house()
        for variables, conditions in [
            ("x:king y", "x own y"), ("x y:king", "x own y"), ("x y", "x eat y"), ("x", "x eat x"),
            ("x y", "x own y, y eat x"), ("x y", "x eat y, x own y"), ("x y z:lords", "x own y, y own z"),
            ("x y z", "x own y, y own z, z eat x"),
        ]:
            with self.subTest(variables=variables, conditions=conditions):
                self.assertEqual(matches(house, bar_of("b", variables, conditions)), [])
        rule = rule_of("r", "x y", "x own y", "x eat y", "x")
        self.assertEqual(len(matches(house, rule)), 4)

    def test_an_empty_house_and_one_without_holdings(self):
        house = House(Scheme(SORTS, WORDS))
        self.assertEqual(matches(house, bar_of("b", "x", "x own x")), [])
        house.enter("ann", "lord")
        self.assertEqual(matches(house, bar_of("b", "x", "x own x")), [])
        house.give("ann", "own", "ann")
        self.assertEqual(matches(house, bar_of("b", "x y z u", "x own y, y own z, z own u")), [("ann",) * 4])

    def test_by_name_in_another_order_and_kinds(self):
        found = matches(pattern=bar_of("b", "x y", "x own y"), house=plain_house())
        self.assertEqual(found, matches(plain_house(), bar_of("b", "x y", "x own y")))
        self.assertIs(type(found), list)
        self.assertEqual({type(row) for row in found}, {tuple})

    def test_against_trying_all_tuples(self):
        for seed in range(150):
            lot = random.Random(seed)
            house = house_by_lot(lot, Scheme(SORTS, WORDS), 6, 25)
            many_conditions = lot.randint(1, 3)
            many = lot.randint(1, many_conditions + 1)
            pattern = rule_by_lot(lot, "r", SORTS, WORDS, many, many_conditions)
            with self.subTest(seed=seed, pattern=str(pattern)):
                found = matches(house, pattern)
                self.assertEqual(found, plain_matches(things_with_sorts(house), house.held(), pattern))
                self.assertEqual(len(found), len(set(found)))

    def test_sixty_things(self):
        house = House(Scheme(SORTS, WORDS))
        for number in range(60):
            house.enter("t" + str(number), SORTS[number % 3])
        for number in range(59):
            house.give("t" + str(number), "own", "t" + str(number + 1))
        rows = [tuple("t" + str(number + step) for step in range(4)) for number in range(57)]
        self.assertEqual(matches(house, bar_of("b", "x y z u", "x own y, y own z, z own u")), sorted(rows))
        self.assertEqual(matches(house, bar_of("b", "u z y x", "y own z, x own y, z own u")),
                         sorted(row[::-1] for row in rows))

    def test_nothing_is_changed(self):
        house = small_house()
        found = matches(house, lend())
        found.append(("eve",))
        found.clear()
        house.give("bob", "know", "ann")
        self.assertEqual(matches(house, lend()), [("bob", "ann", "crate")])
        house.take("bob", "know", "ann")
        self.assertEqual(shown(house), shown(small_house()))


def open_scheme():
    rules = [
        rule_of("zap", "a b", "a own b", "b use a", "a"),
        rule_of("lend", "a:lord b c:box", "a own c, a know b", "b use c", "a"),
        rule_of("loop", "a", "a use a", "a own a", "a"),
    ]
    return Scheme(SORTS, WORDS, None, rules)


def open_house():
    return house_of(
        open_scheme(), "zed:lord ann:lord -bob:lord crate:box",
        "ann own crate, ann know bob, ann know zed, bob own crate, bob know ann, zed use zed, ann own ann",
    )


class OpenDeeds(RefusalCase):
    def test_all_open_deeds_sorted(self):
        self.assertEqual(open_deeds(open_house()), [
            ("do", "lend", ("ann", "bob", "crate")),
            ("do", "lend", ("ann", "zed", "crate")),
            ("do", "loop", ("zed",)),
            ("do", "zap", ("ann", "ann")),
            ("do", "zap", ("ann", "crate")),
        ])

    def test_behind_one_of_them_done(self):
        for deed in open_deeds(open_house()):
            with self.subTest(deed=deed):
                house = open_house()
                play(house, deed)
                self.assertNotIn(deed, open_deeds(house))
                self.assertEqual(open_deeds(house), plain_open(house))

    def test_done_one_by_one_until_none_is_open(self):
        house = open_house()
        many = 0
        while open_deeds(house):
            play(house, open_deeds(house)[0])
            many += 1
            self.assertEqual(open_deeds(house), plain_open(house))
        self.assertEqual(many, 5)

    def test_nothing_is_told_where_what_the_rule_gives_stands(self):
        house = open_house()
        for x, y in [("bob", "crate"), ("zed", "crate"), ("ann", "ann"), ("crate", "ann")]:
            house.give(x, "use", y)
        house.give("zed", "own", "zed")
        self.assertEqual(open_deeds(house), [])
        house.take("zed", "use", "crate")
        self.assertEqual(open_deeds(house), [("do", "lend", ("ann", "zed", "crate"))])

    def test_hands_asleep(self):
        house = open_house()
        house.sleep("ann")
        self.assertEqual(open_deeds(house), [("do", "loop", ("zed",))])
        house.sleep("zed")
        self.assertEqual(open_deeds(house), [])
        house.wake("bob")
        self.assertEqual(open_deeds(house), [("do", "lend", ("bob", "ann", "crate")), ("do", "zap", ("bob", "crate"))])

    def test_no_rules_and_no_things(self):
        self.assertEqual(open_deeds(House(Scheme(SORTS, WORDS))), [])
        self.assertEqual(open_deeds(House(open_scheme())), [])

    def test_against_trying_all(self):
        some = 0
        for seed in range(150):
            lot = random.Random(seed)
            house = house_by_lot(lot, scheme_by_lot(lot), 5, 30)
            with self.subTest(seed=seed):
                found = open_deeds(house)
                some += len(found)
                self.assertEqual(found, plain_open(house))
                self.assertEqual([first_refused(house, [deed]) for deed in found], [None] * len(found))
        self.assertGreater(some, 100)

    def test_by_name_and_nothing_is_changed(self):
        house = open_house()
        found = open_deeds(house=house)
        self.assertEqual(found, open_deeds(open_house()))
        self.assertIs(type(found), list)
        self.assertEqual({type(deed) for deed in found} | {type(deed[2]) for deed in found}, {tuple})
        found.clear()
        self.assertEqual(open_deeds(house), open_deeds(open_house()))
        self.assertEqual(shown(house), shown(open_house()))


if __name__ == "__main__":
    unittest.main()
