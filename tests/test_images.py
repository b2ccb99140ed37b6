"""Points 24 and 25: images in the finished house, and that it knows the future."""

import random
import unittest

from tests.helper import (
    RefusalCase, all_deeds, all_told, house_by_lot, house_of, made_house, made_scheme, scheme_by_lot, shown,
)
from whomay.deeds import after, first_refused, play
from whomay.errors import WhoError
from whomay.finish import Finish, images


class Images(RefusalCase):
    def test_things_of_the_house_are_their_own(self):
        house = made_house()
        self.assertEqual(images(Finish(house), []), {"ann": "ann", "bob": "bob"})

    def test_made_ones_and_made_ones_of_made_ones(self):
        house = made_house()
        deeds = [
            ("make", "ann", "bag", "m1"),
            ("make", "ann", "box", "first"),
            ("make", "ann", "box", "second"),
            ("make", "second", "bag", "deep"),
            ("make", "first", "bag", "m9"),
        ]
        self.assertIsNone(first_refused(house, deeds))
        wanted = {"ann": "ann", "bob": "bob", "m1": "m2", "first": "m1", "second": "m1", "deep": "m3", "m9": "m3"}
        finish = Finish(house)
        self.assertEqual(images(finish, deeds), wanted)
        self.assertEqual(images(deeds=deeds, finish=finish), wanted)
        self.assertIs(type(images(finish, deeds)), dict)
        self.assertEqual(set(images(finish, deeds)), set(after(house, deeds).things()))

    def test_the_way_itself(self):
        finish = Finish(made_house())
        self.assertEqual(images(finish, finish.way()), {name: name for name in finish.things()})

    def test_a_deed_that_is_no_making_is_not_looked_at(self):
        finish = Finish(made_house())
        deeds = [
            ("do", "steal", ("eve", "joe")), ("drop", "eve", "eat", "joe"), ("make", "ann", "box", "new"),
            ("do", "pass", ("new", "nobody", "ann")), ("drop", "new", "own", "new"),
        ]
        self.assertEqual(images(finish, deeds), {"ann": "ann", "bob": "bob", "new": "m1"})

    def test_a_house_that_has_such_names_already(self):
        house = house_of(made_scheme(), "m2:lord m1:box")
        finish = Finish(house)
        self.assertEqual(finish.things(), ["m2", "m1", "m3", "m4", "m5", "m6"])
        deeds = [("make", "m2", "box", "m3"), ("make", "m3", "bag", "m4"), ("make", "m1", "bag", "m5")]
        self.assertEqual(images(finish, deeds), {"m2": "m2", "m1": "m1", "m3": "m3", "m4": "m6", "m5": "m5"})

    def test_refused(self):
        finish = Finish(made_house())
        new = ("make", "ann", "box", "new")
        self.refused("NoThing", ["eve"], images, finish, [new, ("make", "eve", "box", "other")])
        self.refused("NoThing", ["m1"], images, finish, [new, ("make", "m1", "bag", "other")])
        deeds = [("make", "later", "bag", "a"), ("make", "ann", "box", "later")]
        self.refused("NoThing", ["later"], images, finish, deeds)
        self.refused("NoMaking", ["bob", "box"], images, finish, [new, ("make", "bob", "box", "other")])
        self.refused("NoMaking", ["ann", "lord"], images, finish, [("make", "ann", "lord", "other")])
        self.refused("NoMaking", ["m1", "box"], images, finish, [new, ("make", "new", "box", "other")])
        self.refused("NoMaking", ["m1", "lord"], images, deeds=[new, ("make", "new", "lord", "other")], finish=finish)
        self.refused("NoMaking", ["ann", "king"], images, finish, [("make", "ann", "king", "other")])

    def test_refused_in_turn(self):
        finish = Finish(made_house())
        self.refused_in_turn(
            lambda maker, sort: images(finish, [("make", maker, sort, "new")]),
            {"maker": "eve", "sort": "king"},
            [("NoThing", ["eve"], {"maker": "ann"}), ("NoMaking", ["ann", "king"], {"sort": "bag"})],
        )
        first, other = ("make", "bob", "box", "one"), ("make", "eve", "box", "two")
        self.refused("NoMaking", ["bob", "box"], images, finish, [first, other])
        self.refused("NoThing", ["eve"], images, finish, [other, first])

    def test_behind_changes_of_the_house(self):
        house = made_house()
        finish = Finish(house)
        house.enter("eve", "lord")
        house.wake("bob")
        house.sleep("ann")
        self.assertEqual(images(finish, [("make", "ann", "bag", "new")]), {"ann": "ann", "bob": "bob", "new": "m2"})
        self.refused("NoMaking", ["bob", "box"], images, finish, [("make", "bob", "box", "new")])
        self.refused("NoThing", ["eve"], images, finish, [("make", "eve", "box", "new")])

    def test_nothing_is_changed(self):
        finish = Finish(made_house())
        before = all_told(finish)
        deeds = [("make", "ann", "box", "new")]
        told = images(finish, deeds)
        told["ann"] = "eve"
        told.clear()
        self.assertEqual(deeds, [("make", "ann", "box", "new")])
        self.assertEqual(images(finish, deeds), {"ann": "ann", "bob": "bob", "new": "m1"})
        self.assertEqual(all_told(finish), before)


class Future(RefusalCase):
    def test_whatever_is_played_stands_in_the_finished_house(self):
        made = played = 0
        for seed in range(120):
            lot = random.Random(seed)
            house = house_by_lot(lot, scheme_by_lot(lot), 4, 8)
            finish = Finish(house)
            before = shown(house)
            later, deeds = house.twin(), []
            for number in range(25):
                deed = lot.choice(all_deeds(later, "n" + str(number)))
                try:
                    play(later, deed)
                except WhoError:
                    continue
                deeds.append(deed)
            played += len(deeds)
            made += len(later) - len(house)
            image = images(finish, deeds)
            with self.subTest(seed=seed):
                self.assertEqual(sorted(image), sorted(later.things()))
                for x, word, y in later.held():
                    self.assertIsNotNone(finish.round_of(image[x], word, image[y]))
                for name in later.things():
                    self.assertIn(image[name], finish.things())
                self.assertEqual(shown(house), before)
        self.assertGreater(made, 200)
        self.assertGreater(played, 500)


if __name__ == "__main__":
    unittest.main()
