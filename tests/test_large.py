"""Large inputs are answered within seconds: 24 things, eight rules of three conditions over four variables."""

import itertools
import random
import time
import unittest

from tests.helper import (
    RefusalCase, at, bar_of, full_makings, house_of, many_of, rule_by_lot, rule_of, shown, told_lists,
)
from whomay.carrying import translated
from whomay.compare import carried, follows, freer, leaner, least_house
from whomay.deeds import after, first_refused
from whomay.desk import Desk
from whomay.errors import Barred
from whomay.fences import fence, sorts_held
from whomay.finish import Finish
from whomay.houses import House
from whomay.keeper import Keeper
from whomay.least import cure, guards, helpers
from whomay.matching import matches, open_deeds
from whomay.papers import fault, keeps_out, paper_of
from whomay.patterns import Making
from whomay.schemes import Scheme
from whomay.texts import deed_row, house_rows, scheme_rows
from whomay.ways import how, may, stones, who

SECONDS = 40
WORDS = ["own", "use", "know", "see", "hear"]


def large_house(seed, share, sorts=("s",), makings=None, things=24):
    """Things with each holding standing by that share."""
    lot = random.Random(seed)
    rules = [rule_by_lot(lot, "r" + str(number), [], WORDS, 4, 3) for number in range(8)]
    house = House(Scheme(list(sorts), WORDS, makings, rules))
    for number in range(things):
        house.enter("t" + str(number), sorts[0])
    for x in house.things():
        for word in WORDS:
            for y in house.things():
                if lot.random() < share:
                    house.give(x, word, y)
    return house


def counter_house(many):
    """The pointer of each thing goes along all things, then that of the next begins: one new holding a round."""
    rules = [
        rule_of("step", "a b c", "a point b, b next c", "a point c", "a"),
        rule_of("carry", "a b f c", "a point b, b last f, a next c", "c point f", "a"),
    ]
    names = ["t" + str(number) for number in range(many)]
    house = house_of(Scheme(["s"], ["point", "next", "last"], None, rules), " ".join(name + ":s" for name in names))
    for one, other in zip(names, names[1:]):
        house.give(one, "next", other)
    house.give(names[-1], "last", names[0])
    house.give(names[0], "point", names[0])
    return house


class Large(RefusalCase):
    def setUp(self):
        self.began = time.monotonic()

    def tearDown(self):
        self.assertLess(time.monotonic() - self.began, SECONDS)

    def finish_fits(self, house):
        finish = Finish(house)
        way = finish.way()
        self.assertIsNone(first_refused(house, way))
        end = after(house, way)
        self.assertEqual((end.things(), end.held()), (finish.things(), finish.held()))
        self.assertEqual(open_deeds(end), [])
        for x, word, y in finish.held():
            if finish.round_of(x, word, y) > 0:
                kind, name, things = finish.reason(x, word, y)
                conditions, given = at(house.scheme().rule(name), things)
                self.assertEqual(given, (x, word, y))
                # Had all conditions stood a round earlier, so would the holding.
                self.assertEqual(max(finish.round_of(*each) for each in conditions) + 1, finish.round_of(x, word, y))
        return finish

    def asked(self, house, finish, many):
        names = set(house.things())
        new = [triple for triple in finish.held() if {triple[0], triple[2]} <= names and not house.holds(*triple)]
        for x, word, y in random.Random(1).sample(new, min(many, len(new))):
            self.assertIs(may(house, x, word, y), True)
            self.assertIn(x, who(house, word, y))
            way = how(house, x, word, y)
            self.assertTrue(after(house, way).holds(x, word, y))
            for holding in stones(house, x, word, y):
                self.assertIsNone(Finish(house, [holding]).round_of(x, word, y))
        return len(new)

    def test_finished_houses_of_any_share(self):
        new = 0
        for seed, share in enumerate([0.01, 0.02, 0.05, 0.1, 0.3, 0.9, 1.0]):
            house = large_house(seed, share)
            before = shown(house)
            with self.subTest(seed=seed, share=share):
                new += self.asked(house, self.finish_fits(house), 2)
                self.assertEqual(shown(house), before)
        self.assertGreater(new, 2000)

    def test_papers(self):
        for seed, share in enumerate([0.02, 0.1, 0.5, 1.0]):
            house = large_house(seed, share)
            things, held = paper_of(house)
            self.assertEqual((len(things), held), (24, Finish(house).held()))
            self.assertIsNone(fault(house, (things, held)))
            gone = random.Random(seed).choice(held)
            kind = "held" if house.holds(*gone) else "rule"
            self.assertEqual(fault(house, (things, [row for row in held if row != gone]))[0], kind)
            self.assertIs(keeps_out(house, (things, held), *gone), False)

    def test_a_paper_of_sixty_things(self):
        # The first three variables are tied by the fourth one alone.
        rule = rule_of("r", "a b c d", "d own a, d own b, d own c", "a use b", "d")
        rules = [rule, *[rule_of("r" + str(at), "a b c d", "a own b, b own c, c own d", "a use d", "b") for at in range(7)]]
        house = many_of(Scheme(["s"], ["own", "use"], None, rules), "s", 60)
        names = house.things()
        for x in names:
            for y in names:
                house.give(x, "own", y)
        things = [(name, "s", True, None) for name in names]
        use = [(x, "use", y) for x in names for y in names]
        self.assertIsNone(fault(house, (things, house.held() + use)))
        use.remove(("t8", "use", "t7"))
        self.assertEqual(fault(house, (things, house.held() + use)), ("rule", "r", ("t8", "t7", "t0", "t0")))

    def walked(self, house, asked):
        """The three walks' answers are right; what they tell last could not be left out."""
        only, shut, cured = house.twin(), house.twin(), house.twin()
        hands = helpers(house, *asked)
        for name in house.things():
            if name not in hands:
                only.sleep(name)
        self.assertIs(may(only, *asked), True)
        sleepers = guards(house, *asked)
        for name in sleepers:
            shut.sleep(name)
        self.assertIs(may(shut, *asked), False)
        shut.wake(sleepers[-1])
        self.assertIs(may(shut, *asked), True)
        gone = cure(house, *asked)
        for holding in gone:
            cured.take(*holding)
        self.assertIs(may(cured, *asked), False)
        cured.give(*gone[-1])
        self.assertIs(may(cured, *asked), True)
        return len(hands), len(gone)

    def test_walks(self):
        longest = [0, 0]
        for seed, share in enumerate([0.02, 0.05, 0.6]):
            house = large_house(seed, share)
            before = shown(house)
            new = [triple for triple in Finish(house).held() if not house.holds(*triple)]
            for asked in random.Random(seed).sample(new, 2):
                with self.subTest(seed=seed, asked=asked):
                    longest = [max(pair) for pair in zip(longest, self.walked(house, asked))]
            self.assertEqual(shown(house), before)
        self.assertGreater(longest[0], 1)
        self.assertGreater(longest[1], 20)

    def test_two_schemes_without_sorts(self):
        sorts = ["s0", "s1", "s2", "s3"]
        for seed in range(3):
            lot = random.Random(seed)
            rules = [rule_by_lot(lot, "r" + str(number), [], WORDS, 4, 3) for number in range(8)]
            makings = [Making(*pair, lot.sample(WORDS, 2), lot.sample(WORDS, 2)) for pair in itertools.combinations(sorts, 2)]
            one = Scheme(sorts, WORDS, makings[:6 * (seed % 2)], rules)
            other = Scheme(sorts, WORDS, makings[:6 * (seed % 2)], rules[::-1])
            self.compared(one, other)

    def compared(self, one, other):
        self.assertIsNone(freer(one, other))
        told = carried(one, other)
        self.assertEqual(len(told), 8 * 256)
        for name, row, way in told[::50]:
            rule = one.rule(name)
            self.assertTrue(after(least_house(other, rule, row), way).holds(*rule.gives))
        lean = leaner(one)
        self.assertIsNone(freer(one, lean))
        self.assertEqual(told_lists(leaner(lean)), told_lists(lean))
        for rule in lean.rules():
            self.assertIs(follows(lean.without_rule(rule.name), rule), False)

    def test_rules_whose_sorts_are_all_asked_for(self):
        sorts = ["s0", "s1", "s2", "s3"]
        makings = [Making(*pair, ["own", "use"], ["know", "see"]) for pair in itertools.combinations(sorts, 2)]
        rules = [rule_of("r" + str(at), "a b c d", "a own b, b use c, c know d", "a see d", "abcd"[at % 4]) for at in range(8)]
        asking = [rule_of("q" + sort, "a:" + sort, "a hear a", "a own a", "a") for sort in sorts]
        one = Scheme(sorts, WORDS, makings, rules)
        self.assertEqual(len(carried(one, Scheme(sorts, WORDS, makings, rules[:4] + asking))), 8 * 256)

    def test_translated(self):
        house = large_house(3, 0.05)
        other = Scheme(["s"], WORDS, None, house.scheme().rules()[::-1])
        deeds = Finish(house).way()
        told = translated(house, deeds, other)
        self.assertEqual(len(told), len(deeds))
        later = after(house.moved_to(other), told)
        self.assertEqual(later.held(), Finish(house).held())

    def guarded(self, seed, share):
        """A keeper of a large house, with eight rules and four bars that are never met: nobody ever hears."""
        lot = random.Random(seed)
        rules = [rule_by_lot(lot, "r" + str(number), [], WORDS[:4], 4, 3) for number in range(8)]
        bars = [bar_of("b" + word, "a b c d", "a hear b, b " + word + " c, c own d") for word in WORDS[:4]]
        keeper = Keeper(Scheme(["s"], WORDS, None, rules))
        for number in range(24):
            keeper.enter("t" + str(number), "s")
        for x, word, y in itertools.product(keeper.house().things(), WORDS[:4], keeper.house().things()):
            if lot.random() < share:
                keeper.give(x, word, y)
        for bar in bars:
            keeper.add_bar(bar)
        return keeper

    def test_a_keepers_changes(self):
        for seed, share in [(2, 0.1), (3, 0.15)]:
            keeper = self.guarded(seed, share)
            before = shown(keeper.house()), keeper.many()
            self.refused("Crowded", [25], keeper.enter, "more", "s")
            keeper.sleep("t5")
            keeper.wake("t5")
            rule = keeper.scheme().rules()[0]
            keeper.drop_rule(rule.name)
            keeper.add_rule(rule)
            for number in range(4):
                keeper.back()
            with self.assertRaises(Barred) as caught:
                keeper.give("t3", "hear", "t4")
            later = keeper.house()
            later.give("t3", "hear", "t4")
            end = after(later, caught.exception.deeds)
            self.assertIn(caught.exception.spots, matches(end, keeper.scheme().bar(caught.exception.name)))
            self.assertEqual((shown(keeper.house()), keeper.many()), before)
            self.assertGreater(len(Finish(keeper.house()).held()), 1000)

    def test_the_desks_questions(self):
        house = self.guarded(2, 0.1).house()
        rows = scheme_rows(house.scheme())
        desk = Desk(rows[:-4])
        for name in house.things():
            desk.tell("enter " + name + " s")
        for holding in house.held():
            desk.tell("give " + " ".join(holding))
        self.assertEqual([desk.tell("add " + row) for row in rows[-4:]], [["done"]] * 4)
        self.assertEqual(desk.tell("house"), house_rows(house))
        self.assertEqual(desk.tell("finished"), house_rows(Finish(house).end()))
        x, word, y = [triple for triple in Finish(house).held() if not house.holds(*triple)][7]
        asked = " " + " ".join((x, word, y))
        self.assertEqual(desk.tell("may" + asked), ["yes"])
        self.assertIn(x, desk.tell("who " + word + " " + y))
        self.assertEqual(desk.tell("how" + asked), [deed_row(deed) for deed in how(house, x, word, y)])
        for question in ("helpers", "guards", "stones", "cure"):
            self.assertNotIn("refused", " ".join(desk.tell(question + asked)))
        told = desk.tell("give " + " hear ".join([x, y]))
        self.assertEqual(told[0], "refused barred")

    def test_a_fence(self):
        house = large_house(1, 0.1, ["s0", "s1", "s2", "s3"])
        triples = fence(house.scheme(), sorts_held(house))
        self.assertLessEqual(set(sorts_held(Finish(house).end())), set(triples))

    def test_with_makings(self):
        makings = [
            Making("s", "p", ["own"], ["see"]), Making("s", "q", ["use"], []), Making("p", "q", ["own"], ["know"]),
        ]
        house = large_house(5, 0.1, ("s", "p", "q"), makings, 6)
        finish = self.finish_fits(house)
        self.assertEqual(len(finish.things()), 24)
        self.assertGreater(self.asked(house, finish, 3), 20)

    def test_one_new_holding_a_round(self):
        house = counter_house(24)
        finish = self.finish_fits(house)
        self.assertEqual(finish.round_of("t23", "point", "t23"), 575)
        self.assertEqual(len(how(house, "t23", "point", "t23")), 575)

    def test_a_long_row_of_stones(self):
        house = counter_house(12)
        wanted = [triple for triple in Finish(house).held() if not house.holds(*triple)]
        wanted.remove(("t11", "point", "t11"))
        self.assertEqual(stones(house, "t11", "point", "t11"), sorted(wanted))
        self.assertEqual(len(wanted), 142)

    def test_what_can_not_be_counted_by_making(self):
        for number in range(60):
            self.refused("Crowded", [480], Finish, many_of(full_makings(), "s0", 60))

    def test_sixty_things_that_all_hold_a_word_over_all(self):
        rule = rule_of("on", "a b c d", "a own b, b own c, c own d", "a own d", "c")
        house = many_of(Scheme(["s"], ["own", "use"], None, [rule]), "s", 60)
        for x in house.things():
            for y in house.things():
                house.give(x, "own", y)
        self.assertEqual(open_deeds(house), [])
        self.assertEqual(len(matches(house, bar_of("b", "x y", "x own y, y own x"))), 3600)
        house.take("t5", "own", "t7")
        self.assertEqual(len(open_deeds(house)), 59 * 59 - 1)


if __name__ == "__main__":
    unittest.main()
