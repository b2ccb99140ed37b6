"""Points 13 to 15: houses, the changes from outside, the questions and twins."""

import unittest

from tests.helper import RefusalCase, shown, small_house, small_scheme, told_lists
from whomay.houses import House


def full_house():
    house = House(small_scheme())
    for at in range(60):
        house.enter("t" + str(at), "box")
    return house


class Enter(RefusalCase):
    def test_a_new_house_is_empty(self):
        house = House(small_scheme())
        self.assertEqual(shown(house), ([], [], 0))

    def test_things_come_behind_the_others(self):
        house = House(scheme=small_scheme())
        house.enter("zed", "lord")
        house.enter("ann", "box", False)
        house.enter(awake=True, sort="bag", name="mid")
        house.enter(sort="lord", awake=False, name="bob")
        house.enter(sort="box", name="last")
        self.assertEqual(shown(house)[0], [
            ("zed", "lord", True), ("ann", "box", False), ("mid", "bag", True),
            ("bob", "lord", False), ("last", "box", True),
        ])
        self.assertEqual(house.held(), [])
        self.assertEqual(len(house), 5)

    def test_a_thing_that_comes_without_a_word_of_it_is_awake(self):
        house = House(small_scheme())
        house.enter("ann", "lord")
        self.assertIs(house.is_awake("ann"), True)

    def test_refused(self):
        house = small_house()
        before = shown(house)
        self.refused("NoName", ["Ann"], house.enter, "Ann", "lord")
        self.refused("NoName", ["Ann"], house.enter, "Ann", "king")
        self.refused("Taken", ["ann"], house.enter, "ann", "lord")
        self.refused("Taken", ["ann"], house.enter, "ann", "king")
        self.refused("Taken", ["bob"], house.enter, awake=True, sort="box", name="bob")
        self.refused("NoSort", ["king"], house.enter, "new", "king")
        self.refused("NoSort", ["own"], house.enter, "new", "own")
        self.refused("NoSort", [""], house.enter, "new", "", False)
        self.assertEqual(shown(house), before)

    def test_sixty_things_and_one_more(self):
        house = full_house()
        self.assertEqual(len(house), 60)
        before = shown(house)
        self.refused("NoName", ["T!"], house.enter, "T!", "king")
        self.refused("Taken", ["t59"], house.enter, "t59", "king")
        self.refused("Taken", ["t0"], house.enter, "t0", "box")
        self.refused("NoSort", ["king"], house.enter, "t60", "king")
        self.refused("Full", [], house.enter, "t60", "box")
        self.refused("Full", [], house.enter, "t60", "lord", False)
        self.assertEqual(shown(house), before)
        house.give("t0", "own", "t59")
        self.assertTrue(house.holds("t0", "own", "t59"))
        self.refused("Full", [], house.twin().enter, "t60", "box")

    def test_fifty_nine_things_and_one_more(self):
        house = House(small_scheme())
        for at in range(59):
            house.enter("t" + str(at), "box")
        house.enter("last", "bag")
        self.assertEqual(house.things()[-1], "last")
        self.assertEqual(len(house), 60)

    def test_a_name_of_a_sort_or_a_word_is_free_for_a_thing(self):
        house = House(small_scheme())
        house.enter("lord", "lord")
        house.enter("own", "box")
        house.give("lord", "own", "own")
        self.assertEqual(house.held(), [("lord", "own", "own")])


class Holdings(RefusalCase):
    def test_give_and_take(self):
        house = small_house()
        self.assertIs(house.holds("ann", "own", "crate"), False)
        house.give("ann", "own", "crate")
        self.assertIs(house.holds("ann", "own", "crate"), True)
        self.assertIs(house.holds("crate", "own", "ann"), False)
        self.assertIs(house.holds("ann", "use", "crate"), False)
        house.take("ann", "own", "crate")
        self.assertIs(house.holds("ann", "own", "crate"), False)
        self.assertEqual(shown(house), shown(small_house()))

    def test_by_name_in_another_order(self):
        house = small_house()
        house.give(y="crate", x="ann", word="own")
        self.assertIs(house.holds(word="own", y="crate", x="ann"), True)
        self.assertIs(house.holds(word="own", y="ann", x="crate"), False)
        house.take(word="own", y="crate", x="ann")
        self.assertIs(house.holds("ann", "own", "crate"), False)

    def test_give_of_what_stands(self):
        house = small_house()
        house.give("ann", "know", "bob")
        self.assertEqual(shown(house), shown(small_house()))
        house.take("ann", "know", "bob")
        self.assertIs(house.holds("ann", "know", "bob"), False)
        self.refused("NotHeld", ["ann", "know", "bob"], house.take, "ann", "know", "bob")

    def test_take_of_what_does_not_stand(self):
        house = small_house()
        for x, word, y in [("bob", "know", "ann"), ("ann", "own", "bob"), ("ann", "know", "ann")]:
            self.refused("NotHeld", [x, word, y], house.take, x, word, y)
        self.refused("NotHeld", ["bob", "know", "ann"], house.take, y="ann", word="know", x="bob")
        self.assertEqual(shown(house), shown(small_house()))

    def test_one_thing_for_x_and_y(self):
        house = small_house()
        self.assertIs(house.holds("ann", "use", "ann"), True)
        self.assertIs(house.holds("bob", "use", "bob"), False)
        house.give("bob", "use", "bob")
        self.assertIs(house.holds("bob", "use", "bob"), True)
        house.take("ann", "use", "ann")
        self.assertEqual(house.held(), [("ann", "know", "bob"), ("bob", "own", "crate"), ("bob", "use", "bob")])

    def test_held_is_sorted(self):
        house = small_house()
        row = [("crate", "use", "ann"), ("ann", "own", "bob"), ("bag1", "know", "bag1"), ("ann", "own", "bag1"),
               ("ann", "know", "crate")]
        for x, word, y in row:
            house.give(x, word, y)
        self.assertEqual(house.held(), [
            ("ann", "know", "bob"), ("ann", "know", "crate"), ("ann", "own", "bag1"), ("ann", "own", "bob"),
            ("ann", "use", "ann"), ("bag1", "know", "bag1"), ("bob", "own", "crate"), ("crate", "use", "ann"),
        ])
        for holding in house.held():
            self.assertIs(type(holding), tuple)

    def test_refused_in_turn(self):
        for method in ["give", "take", "holds"]:
            house = small_house()
            before = shown(house)
            steps = [
                ("NoThing", ["eve"], {"x": "ann"}),
                ("NoThing", ["Joe!"], {"y": "crate"}),
                ("NoWord", ["eat"], {"word": "own"}),
            ]
            start = {"x": "eve", "word": "eat", "y": "Joe!"}
            if method == "take":
                steps.append(("NotHeld", ["ann", "own", "crate"], {"x": "bob"}))
            with self.subTest(method=method):
                self.refused_in_turn(getattr(house, method), start, steps)
            untouched = small_house()
            for kind, fields, mending in steps:
                self.refused(kind, fields, getattr(untouched, method), **start)
                start.update(mending)
            self.assertEqual(shown(untouched), before)

    def test_a_word_or_sort_is_no_thing(self):
        house = small_house()
        self.refused("NoThing", ["lord"], house.give, "lord", "own", "ann")
        self.refused("NoThing", ["own"], house.holds, "ann", "own", "own")
        self.refused("NoWord", ["lord"], house.take, "ann", "lord", "bob")

    def test_holdings_of_things_asleep(self):
        house = small_house()
        house.give("bob", "know", "ann")
        self.assertIs(house.is_awake("bob"), False)
        house.take("bob", "own", "crate")
        self.assertEqual(house.held(), [("ann", "know", "bob"), ("ann", "use", "ann"), ("bob", "know", "ann")])


class Awake(RefusalCase):
    def test_wake_and_sleep(self):
        house = small_house()
        self.assertEqual([house.is_awake(x) for x in house.things()], [False, True, True, True])
        house.wake("bob")
        house.sleep("crate")
        self.assertEqual([house.is_awake(x) for x in house.things()], [True, True, False, True])
        house.sleep(x="bob")
        house.wake(x="crate")
        self.assertEqual(shown(house), shown(small_house()))
        self.assertIs(house.is_awake(x="bob"), False)
        self.assertIs(house.is_awake(x="ann"), True)

    def test_wake_of_who_is_awake_and_sleep_of_who_is_asleep(self):
        house = small_house()
        house.wake("ann")
        house.sleep("bob")
        self.assertEqual(shown(house), shown(small_house()))
        house.sleep("ann")
        house.sleep("ann")
        self.assertIs(house.is_awake("ann"), False)
        house.wake("ann")
        self.assertIs(house.is_awake("ann"), True)

    def test_nothing(self):
        house = small_house()
        for method in ["wake", "sleep", "sort_of", "is_awake"]:
            for name in ["eve", "lord", "own", "", "ANN", "a n"]:
                with self.subTest(method=method, name=name):
                    self.refused("NoThing", [name], getattr(house, method), name)
                    self.refused("NoThing", [name], getattr(house, method), x=name)
        self.assertEqual(shown(house), shown(small_house()))


class Questions(RefusalCase):
    def test_things_sorts_and_len(self):
        house = small_house()
        self.assertEqual(house.things(), ["bob", "ann", "crate", "bag1"])
        self.assertEqual([house.sort_of(x) for x in house.things()], ["lord", "lord", "box", "bag"])
        self.assertEqual(house.sort_of(x="crate"), "box")
        self.assertEqual(len(house), 4)

    def test_lists_that_are_told_and_changed_afterwards_change_nothing(self):
        house = small_house()
        house.things().append("eve")
        house.things().clear()
        house.held().append(("ann", "own", "bob"))
        house.held().clear()
        house.scheme().sorts().append("king")
        self.assertEqual(shown(house), shown(small_house()))
        self.refused("NoSort", ["king"], house.enter, "new", "king")
        self.refused("NoThing", ["eve"], house.wake, "eve")

    def test_scheme_is_the_one_that_it_was_made_with(self):
        scheme = small_scheme()
        house = House(scheme)
        self.assertIs(house.scheme(), scheme)
        self.assertIs(house.twin().scheme(), scheme)
        scheme.without_rule("lend")
        self.assertEqual(told_lists(house.scheme()), told_lists(small_scheme()))

    def test_two_houses_of_one_scheme(self):
        scheme = small_scheme()
        one, other = House(scheme), House(scheme)
        one.enter("ann", "lord")
        one.give("ann", "own", "ann")
        self.assertEqual(shown(other), ([], [], 0))


class Twins(RefusalCase):
    CHANGES = [
        lambda house: house.enter("new", "box"),
        lambda house: house.give("ann", "own", "crate"),
        lambda house: house.take("ann", "know", "bob"),
        lambda house: house.wake("bob"),
        lambda house: house.sleep("ann"),
    ]

    def test_a_twin_tells_the_same(self):
        house = small_house()
        twin = house.twin()
        self.assertIsInstance(twin, House)
        self.assertIsNot(twin, house)
        self.assertEqual(shown(twin), shown(house))
        self.assertEqual(shown(House(small_scheme()).twin()), ([], [], 0))

    def test_a_change_to_one_never_shows_in_another(self):
        for number, change in enumerate(self.CHANGES):
            for changed in range(3):
                with self.subTest(change=number, changed=changed):
                    house = small_house()
                    twin = house.twin()
                    houses = [house, twin, twin.twin()]
                    change(houses[changed])
                    wanted = small_house()
                    change(wanted)
                    self.assertNotEqual(shown(wanted), shown(small_house()))
                    for at, each in enumerate(houses):
                        self.assertEqual(shown(each), shown(wanted if at == changed else small_house()))

    def test_a_twin_of_what_was_changed(self):
        house = small_house()
        for change in self.CHANGES:
            change(house)
        twin = house.twin()
        self.assertEqual(shown(twin), shown(house))
        self.assertEqual(twin.things(), ["bob", "ann", "crate", "bag1", "new"])


if __name__ == "__main__":
    unittest.main()
