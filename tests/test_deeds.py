"""Points 16 and 17: deeds from inside, and rows of them."""

import unittest

from tests.helper import RefusalCase, house_of, rule_of, shown, small_house
from whomay.deeds import after, first_refused, play
from whomay.houses import House
from whomay.patterns import Making
from whomay.schemes import Scheme


def deed_scheme():
    """Lords make boxes and bags, boxes make bags; three rules, of which one gives to a single thing."""
    makings = [
        Making("lord", "box", ["own", "use"], ["know"]),
        Making("lord", "bag", [], ["use"]),
        Making("box", "bag", [], []),
    ]
    rules = [
        rule_of("lend", "a:lord b c:box", "a own c, a know b", "b use c", "a"),
        rule_of("pass", "a b c", "a own b, b own c", "a own c", "b"),
        rule_of("self", "a", "a own a", "a know a", "a"),
    ]
    return Scheme(["lord", "box", "bag"], ["own", "use", "know"], makings, rules)


def deed_house():
    return house_of(
        deed_scheme(),
        "ann:lord -bob:lord crate:box sack:bag -chest:box",
        "ann own crate, ann know bob, ann know crate, bob own chest, bob know ann, crate own sack, ann own ann,"
        "bob own bob, sack use sack",
    )


def sixty(sort="lord"):
    house = House(deed_scheme())
    for number in range(60):
        house.enter("t" + str(number), sort)
    return house


def make(house, maker, sort, name):
    play(house, ("make", maker, sort, name))


def do(house, rule, things):
    play(house, ("do", rule, things))


def drop(house, x, word, y):
    play(house, ("drop", x, word, y))


class DeedCase(RefusalCase):
    def refused_play(self, kind, fields, house, deed):
        before = shown(house)
        self.refused(kind, fields, play, house, deed)
        self.refused(kind, fields, play, deed=deed, house=house)
        self.refused(kind, fields, after, house, [deed])
        self.assertEqual(first_refused(house, [deed]), 0)
        self.assertEqual(shown(house), before)

    def brings(self, house, deed, more_things, more_held, less_held=()):
        """The deed is done and changes just this."""
        things, held, many = shown(house)
        self.assertIsNone(play(house, deed))
        wanted = sorted((set(held) | set(more_held)) - set(less_held))
        self.assertEqual(shown(house), (things + more_things, wanted, many + len(more_things)))


class Makings(DeedCase):
    def test_a_made_thing_with_the_words_of_the_making(self):
        house = deed_house()
        self.brings(
            house, ("make", "ann", "box", "new"), [("new", "box", True)],
            [("ann", "own", "new"), ("ann", "use", "new"), ("new", "know", "ann")],
        )
        self.brings(house, ("make", "ann", "bag", "more"), [("more", "bag", True)], [("more", "use", "ann")])
        self.brings(house, ("make", "new", "bag", "m1"), [("m1", "bag", True)], [])
        self.brings(house, ("make", "crate", "bag", "a0"), [("a0", "bag", True)], [])
        self.assertEqual(house.things()[-4:], ["new", "more", "m1", "a0"])

    def test_several_of_one_maker_and_sort(self):
        house = deed_house()
        make(house, "ann", "box", "one")
        make(house, "ann", "box", "two")
        for name in ["one", "two"]:
            self.assertEqual([house.holds("ann", word, name) for word in ["own", "use", "know"]], [True, True, False])
            self.assertEqual([house.holds(name, word, "ann") for word in ["own", "use", "know"]], [False, False, True])
        for word in ["own", "use", "know"]:
            self.assertFalse(house.holds("one", word, "two") or house.holds("two", word, "one"))

    def test_a_word_that_goes_both_ways(self):
        scheme = Scheme(["lord", "box"], ["own"], [Making("lord", "box", ["own"], ["own"])])
        house = house_of(scheme, "ann:lord bob:lord")
        make(house, "bob", "box", "new")
        self.assertEqual(house.held(), [("bob", "own", "new"), ("new", "own", "bob")])

    def test_what_is_made_can_act(self):
        house = deed_house()
        make(house, "ann", "box", "new")
        house.give("new", "own", "sack")
        do(house, "pass", ("ann", "new", "sack"))
        self.assertTrue(house.holds("ann", "own", "sack"))
        make(house, "new", "bag", "deep")
        drop(house, "new", "know", "ann")
        self.assertFalse(house.holds("new", "know", "ann"))

    def test_refused_in_turn(self):
        house = deed_house()
        before = shown(house)
        self.refused_in_turn(
            lambda maker, sort, name: make(house, maker, sort, name),
            {"maker": "eve", "sort": "king", "name": "Box 1"},
            [
                ("NoThing", ["eve"], {"maker": "chest"}),
                ("NoSort", ["king"], {"sort": "lord"}),
                ("Asleep", ["chest"], {"maker": "crate"}),
                ("NoMaking", ["box", "lord"], {"sort": "bag"}),
                ("NoName", ["Box 1"], {"name": "ann"}),
                ("Taken", ["ann"], {"name": "new"}),
            ],
        )
        self.assertEqual(shown(house), (before[0] + [("new", "bag", True)], before[1], before[2] + 1))

    def test_refused_alone(self):
        house = deed_house()
        self.refused_play("NoThing", [""], house, ("make", "", "box", "new"))
        self.refused_play("NoThing", ["lord"], house, ("make", "lord", "box", "new"))
        self.refused_play("NoSort", ["Box"], house, ("make", "ann", "Box", "new"))
        self.refused_play("NoSort", ["crate"], house, ("make", "ann", "crate", "new"))
        self.refused_play("Asleep", ["bob"], house, ("make", "bob", "box", "new"))
        self.refused_play("NoMaking", ["lord", "lord"], house, ("make", "ann", "lord", "new"))
        self.refused_play("NoMaking", ["bag", "bag"], house, ("make", "sack", "bag", "new"))
        self.refused_play("NoMaking", ["bag", "box"], house, ("make", "sack", "box", "new"))
        self.refused_play("NoName", ["1new"], house, ("make", "ann", "box", "1new"))
        self.refused_play("Taken", ["bob"], house, ("make", "ann", "box", "bob"))
        self.refused_play("Taken", ["sack"], house, ("make", "ann", "bag", "sack"))

    def test_sixty_things_and_one_more(self):
        house = sixty()
        house.sleep("t1")
        self.refused_play("NoThing", ["t60"], house, ("make", "t60", "box", "new"))
        self.refused_play("NoSort", ["king"], house, ("make", "t0", "king", "new"))
        self.refused_play("Asleep", ["t1"], house, ("make", "t1", "box", "new"))
        self.refused_play("NoMaking", ["lord", "lord"], house, ("make", "t0", "lord", "new"))
        self.refused_play("NoName", ["New"], house, ("make", "t0", "box", "New"))
        self.refused_play("Taken", ["t59"], house, ("make", "t0", "box", "t59"))
        self.refused_play("Full", [], house, ("make", "t0", "box", "new"))
        self.assertEqual(len(house), 60)

    def test_the_sixtieth_thing(self):
        house = House(deed_scheme())
        for number in range(59):
            house.enter("t" + str(number), "lord")
        make(house, "t58", "box", "last")
        self.assertEqual(house.things()[59], "last")
        self.refused_play("Full", [], house, ("make", "t58", "box", "beyond"))
        house.give("t0", "own", "t0")
        do(house, "self", ("t0",))
        self.assertTrue(house.holds("t0", "know", "t0"))


class Rules(DeedCase):
    def test_what_the_rule_gives_stands(self):
        house = deed_house()
        self.brings(house, ("do", "lend", ("ann", "bob", "crate")), [], [("bob", "use", "crate")])
        self.brings(house, ("do", "pass", ("ann", "crate", "sack")), [], [("ann", "own", "sack")])

    def test_one_thing_for_several_variables(self):
        house = deed_house()
        self.brings(house, ("do", "lend", ("ann", "crate", "crate")), [], [("crate", "use", "crate")])
        self.brings(house, ("do", "self", ("ann",)), [], [("ann", "know", "ann")])
        self.brings(house, ("do", "lend", ("ann", "ann", "crate")), [], [("ann", "use", "crate")])
        self.brings(house, ("do", "pass", ("ann", "ann", "ann")), [], [])
        self.brings(house, ("do", "pass", ("ann", "ann", "crate")), [], [])

    def test_a_deed_that_brings_nothing_new_is_done_too(self):
        house = deed_house()
        do(house, "lend", ("ann", "bob", "crate"))
        self.brings(house, ("do", "lend", ("ann", "bob", "crate")), [], [])
        house.take("ann", "know", "bob")
        self.refused_play("NotHeld", ["ann", "know", "bob"], house, ("do", "lend", ("ann", "bob", "crate")))
        self.assertTrue(house.holds("bob", "use", "crate"))

    def test_only_the_hand_has_to_be_awake(self):
        house = deed_house()
        house.sleep("crate")
        self.brings(house, ("do", "lend", ("ann", "bob", "crate")), [], [("bob", "use", "crate")])
        self.refused_play("Asleep", ["crate"], house, ("do", "pass", ("ann", "crate", "sack")))
        self.refused_play("Asleep", ["bob"], house, ("do", "lend", ("bob", "ann", "chest")))
        house.wake("bob")
        self.brings(house, ("do", "lend", ("bob", "ann", "chest")), [], [("ann", "use", "chest")])

    def test_refused_in_turn(self):
        house = deed_house()
        self.refused_in_turn(
            lambda rule, things: do(house, rule, things),
            {"rule": "steal", "things": ("ann", "eve", "Joe", "crate")},
            [
                ("NoRule", ["steal"], {"rule": "lend"}),
                ("NoThing", ["eve"], {"things": ("ann", "bob", "Joe", "crate")}),
                ("NoThing", ["Joe"], {"things": ("bob", "crate", "crate", "sack")}),
                ("Misfit", ["lend"], {"things": ("bob", "crate", "sack")}),
                ("Misfit", ["lend"], {"things": ("bob", "crate", "crate")}),
                ("Asleep", ["bob"], {"things": ("ann", "sack", "chest")}),
                ("NotHeld", ["ann", "own", "chest"], {"things": ("ann", "sack", "crate")}),
                ("NotHeld", ["ann", "know", "sack"], {"things": ("ann", "bob", "crate")}),
            ],
        )
        self.assertTrue(house.holds("bob", "use", "crate"))

    def test_too_many_and_too_few_things(self):
        house = deed_house()
        for things in [(), ("ann",), ("ann", "bob"), ("ann", "bob", "crate", "crate"), ("ann",) * 9]:
            self.refused_play("Misfit", ["lend"], house, ("do", "lend", things))
        self.refused_play("NoThing", ["eve"], house, ("do", "lend", ("eve",)))
        self.refused_play("NoThing", ["eve"], house, ("do", "lend", ("ann", "bob", "crate", "eve")))
        for things in [(), ("ann", "ann")]:
            self.refused_play("Misfit", ["self"], house, ("do", "self", things))

    def test_things_of_other_sorts(self):
        house = deed_house()
        for things in [("crate", "bob", "crate"), ("sack", "bob", "crate"), ("ann", "bob", "ann"),
                       ("ann", "bob", "sack"), ("bob", "ann", "ann")]:
            self.refused_play("Misfit", ["lend"], house, ("do", "lend", things))

    def test_no_such_rule(self):
        house = deed_house()
        for name in ["", "Lend", "ann", "own", "a b"]:
            self.refused_play("NoRule", [name], house, ("do", name, ("ann",)))

    def test_the_first_condition_that_does_not_stand_is_told(self):
        house = deed_house()
        self.refused_play("NotHeld", ["sack", "own", "crate"], house, ("do", "pass", ("sack", "crate", "crate")))
        self.refused_play("NotHeld", ["crate", "own", "crate"], house, ("do", "pass", ("ann", "crate", "crate")))
        self.refused_play("NotHeld", ["crate", "own", "ann"], house, ("do", "pass", ("crate", "ann", "sack")))
        self.refused_play("NotHeld", ["sack", "own", "sack"], house, ("do", "self", ("sack",)))


class Drops(DeedCase):
    def test_a_holding_is_let_go(self):
        house = deed_house()
        self.brings(house, ("drop", "ann", "own", "crate"), [], [], [("ann", "own", "crate")])
        self.brings(house, ("drop", "sack", "use", "sack"), [], [], [("sack", "use", "sack")])
        self.refused_play("NotHeld", ["ann", "own", "crate"], house, ("drop", "ann", "own", "crate"))

    def test_over_a_thing_asleep(self):
        house = deed_house()
        self.brings(house, ("drop", "ann", "know", "bob"), [], [], [("ann", "know", "bob")])

    def test_refused_in_turn(self):
        house = deed_house()
        self.refused_in_turn(
            lambda x, word, y: drop(house, x, word, y),
            {"x": "eve", "word": "eat", "y": "Joe"},
            [
                ("NoThing", ["eve"], {"x": "bob"}),
                ("NoThing", ["Joe"], {"y": "crate"}),
                ("NoWord", ["eat"], {"word": "own"}),
                ("Asleep", ["bob"], {"x": "sack"}),
                ("NotHeld", ["sack", "own", "crate"], {"x": "ann"}),
            ],
        )
        self.assertFalse(house.holds("ann", "own", "crate"))

    def test_refused_alone(self):
        house = deed_house()
        self.refused_play("NoThing", ["eve"], house, ("drop", "eve", "own", "crate"))
        self.refused_play("NoThing", ["eve"], house, ("drop", "ann", "own", "eve"))
        self.refused_play("NoWord", ["Own"], house, ("drop", "ann", "Own", "crate"))
        self.refused_play("Asleep", ["bob"], house, ("drop", "bob", "own", "chest"))
        self.refused_play("NotHeld", ["crate", "own", "ann"], house, ("drop", "crate", "own", "ann"))


class OtherDeeds(DeedCase):
    def test_another_word_is_no_deed(self):
        house = deed_house()
        self.refused_play("NoDeed", ["jump"], house, ("jump",))
        self.refused_play("NoDeed", ["Make"], house, ("Make", "ann", "box", "new"))
        self.refused_play("NoDeed", [""], house, ("", "ann", "own", "crate"))
        self.refused_play("NoDeed", ["lend"], house, ("lend", ("ann", "bob", "crate")))
        self.refused_play("NoDeed", ["give"], house, ("give", "ann", "own", "bob"))
        self.refused_play("NoDeed", ["do "], house, ("do ", "lend", ("ann", "bob", "crate")))

    def test_by_name_in_another_order(self):
        house = deed_house()
        self.assertIsNone(play(deed=("drop", "ann", "own", "crate"), house=house))
        self.assertFalse(house.holds("ann", "own", "crate"))


def row_of_deeds():
    return [
        ("make", "ann", "box", "new"),
        ("do", "lend", ("ann", "bob", "new")),
        ("make", "new", "bag", "deep"),
        ("drop", "ann", "own", "new"),
        ("do", "self", ("ann",)),
    ]


class Rows(DeedCase):
    def setUp(self):
        self.house = deed_house()
        self.deeds = row_of_deeds()

    def tearDown(self):
        self.assertEqual(shown(self.house), shown(deed_house()))
        self.assertEqual(self.deeds, row_of_deeds())

    def test_no_deed(self):
        later = after(self.house, [])
        self.assertIsInstance(later, House)
        self.assertIsNot(later, self.house)
        self.assertEqual(shown(later), shown(self.house))
        self.assertIsNone(first_refused(self.house, []))

    def test_all_played(self):
        later = after(self.house, self.deeds)
        wanted = deed_house()
        for deed in row_of_deeds():
            play(wanted, deed)
        self.assertEqual(shown(later), shown(wanted))
        self.assertEqual(later.things()[-2:], ["new", "deep"])
        self.assertIs(later.scheme(), self.house.scheme())
        self.assertIsNone(first_refused(self.house, self.deeds))

    def test_by_name_in_another_order(self):
        self.assertEqual(shown(after(deeds=self.deeds, house=self.house)), shown(after(self.house, self.deeds)))
        self.assertIsNone(first_refused(deeds=self.deeds, house=self.house))
        self.assertEqual(first_refused(deeds=[("jump",)], house=self.house), 0)

    def test_one_refused_at_each_place(self):
        for place in range(len(self.deeds) + 1):
            for bad, kind, fields in [
                (("drop", "bob", "own", "chest"), "Asleep", ["bob"]),
                (("jump",), "NoDeed", ["jump"]),
                (("do", "steal", ()), "NoRule", ["steal"]),
                (("make", "ann", "king", "k"), "NoSort", ["king"]),
            ]:
                with self.subTest(place=place, bad=bad):
                    row = self.deeds[:place] + [bad] + self.deeds[place:] + [("fly",)]
                    kept = list(row)
                    self.assertEqual(first_refused(self.house, row), place)
                    self.refused(kind, fields, after, self.house, row)
                    self.assertEqual(row, kept)

    def test_a_deed_that_rests_on_one_left_out(self):
        self.assertEqual(first_refused(self.house, self.deeds[1:]), 0)
        self.assertEqual(first_refused(self.house, [self.deeds[4], *self.deeds[2:]]), 1)
        self.refused("NoThing", ["new"], after, self.house, self.deeds[2:])
        self.assertEqual(first_refused(self.house, [self.deeds[0], self.deeds[0]]), 1)
        self.refused("Taken", ["new"], after, self.house, [self.deeds[0], self.deeds[0]])

    def test_the_new_house_is_the_askers_own(self):
        later = after(self.house, self.deeds)
        later.enter("eve", "lord")
        later.wake("bob")
        later.take("bob", "own", "chest")
        self.assertEqual(shown(self.house), shown(deed_house()))
        self.house.enter("joe", "lord")
        self.assertNotIn("joe", later.things())
        self.house = deed_house()

    def test_the_house_as_it_is(self):
        house = deed_house()
        house.sleep("ann")
        self.assertEqual(first_refused(house, self.deeds), 0)
        self.refused("Asleep", ["ann"], after, house, self.deeds)
        house.wake("ann")
        house.take("ann", "know", "bob")
        self.assertEqual(first_refused(house, self.deeds), 1)
        house.give("ann", "know", "bob")
        self.assertIsNone(first_refused(house, self.deeds))

    def test_full_on_the_way(self):
        house = sixty()
        self.assertEqual(first_refused(house, [("make", "t0", "box", "new")]), 0)
        house = House(deed_scheme())
        house.enter("ann", "lord")
        deeds = [("make", "ann", "bag", "b" + str(number)) for number in range(61)]
        self.assertEqual(first_refused(house, deeds), 59)
        self.assertEqual(len(after(house, deeds[:59])), 60)
        self.refused("Full", [], after, house, deeds)

    def test_a_house_of_another_scheme(self):
        house = small_house()
        self.assertEqual(first_refused(house, [("do", "pass", ("ann", "ann", "ann"))]), 0)
        self.refused("NoRule", ["pass"], after, house, [("do", "pass", ("ann", "ann", "ann"))])


if __name__ == "__main__":
    unittest.main()
