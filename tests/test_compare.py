"""Two schemes (points 36 to 39 and 41)."""

import itertools
import random
import unittest

from tests.helper import (
    RefusalCase, bar_of, both, few_words_by_lot, few_words_house_by_lot, house_of, moved, pair_by_lot, passing_over,
    plain_rounds, rule_of, shown, told_lists, with_rules,
)
from whomay.compare import carried, follows, freer, leaner, least_house, sort_rows
from whomay.deeds import after, play
from whomay.houses import House
from whomay.patterns import Making
from whomay.schemes import Scheme
from whomay.ways import may

FOUR = ["king", "lord", "box", "bag"]


def plain_rows(scheme, rule):
    free = [scheme.sorts() if sort is None else [sort] for name, sort in rule.variables]
    return list(itertools.product(*free))


def plain_least(scheme, rule, row):
    things = [("" if name == rule.by else "-") + name + ":" + sort for (name, own), sort in zip(rule.variables, row)]
    return house_of(scheme, " ".join(things), ", ".join(" ".join(triple) for triple in rule.conditions))


def plain_lost(scheme, rule):
    """The rows of sorts for which what the rule gives never comes about."""
    rows = plain_rows(scheme, rule)
    return [row for row in rows if rule.gives not in plain_rounds(plain_least(scheme, rule, row))]


def plain_freer(one, other):
    for rule in one.rules():
        lost = plain_lost(other, rule)
        if lost:
            return (rule.name, lost[0])
    return None


def plain_leaner(scheme):
    for rule in scheme.rules():
        rest = scheme.without_rule(rule.name)
        if not plain_lost(rest, rule):
            scheme = rest
    return scheme


def two_sorts(rules, makings=None, bars=None):
    return Scheme(["lord", "box"], ["own", "use", "know"], makings, rules, bars)


def between(house, rounds):
    return {(x, word, y) for x, word, y in rounds if x in house.things() and y in house.things()}


class SortRows(RefusalCase):
    def test_four_variables_without_sorts_in_four_sorts(self):
        rule = rule_of("r", "a b c d", "a own b, b own c, c own d", "a own d", "a")
        scheme = Scheme(FOUR, ["own"])
        rows = sort_rows(scheme, rule)
        self.assertEqual(len(rows), 256)
        self.assertEqual(rows[:2], [("king", "king", "king", "king"), ("king", "king", "king", "lord")])
        self.assertEqual(rows[4], ("king", "king", "lord", "king"))
        self.assertEqual(rows[64], ("lord", "king", "king", "king"))
        self.assertEqual(rows, list(itertools.product(FOUR, repeat=4)))
        self.assertEqual((type(rows), {type(row) for row in rows}), (list, {tuple}))

    def test_variables_with_and_without_sorts(self):
        scheme = Scheme(["lord", "box"], ["own"])
        rule = rule_of("r", "a b:box c", "a own b, b own c", "a own c", "b")
        self.assertEqual(sort_rows(scheme, rule), [
            ("lord", "box", "lord"), ("lord", "box", "box"), ("box", "box", "lord"), ("box", "box", "box"),
        ])
        self.assertEqual(sort_rows(scheme, rule_of("r", "a:lord", "a own a", "a own a", "a")), [("lord",)])
        # The scheme's order of sorts, not the sorted one; the rule need not be one of its rules.
        self.assertEqual(sort_rows(scheme, rule_of("r", "a", "a own a", "a own a", "a")), [("lord",), ("box",)])

    def test_refusals_in_turn(self):
        rules = [
            rule_of("r", "a:king b:pope", "a eat b", "a drink b", "a"),
            rule_of("r", "a:lord b:pope", "a eat b, a own b", "a drink b", "a"),
            rule_of("r", "a:lord b:box", "a own b, a eat b, b gnaw b", "a drink b", "a"),
            rule_of("r", "a:lord b:box", "a own b, a own b, b gnaw b", "a drink b", "a"),
            rule_of("r", "a:lord b:box", "a own b", "a drink b", "a"),
        ]
        good = rule_of("r", "a:lord b:box", "a own b", "b own a", "a")
        refusals = [("NoSort", "king"), ("NoSort", "pope"), ("NoWord", "eat"), ("NoWord", "gnaw"), ("NoWord", "drink")]
        steps = [
            (kind, [name], {"rule": rule})
            for (kind, name), rule in zip(refusals, rules[1:] + [good])
        ]
        scheme = Scheme(["lord", "box"], ["own"])
        start = {"scheme": scheme, "rule": rules[0]}
        self.assertEqual(self.refused_in_turn(sort_rows, start, steps), [("lord", "box")])
        self.assertIs(self.refused_in_turn(follows, start, steps), False)
        misfit = ("Misfit", ["r"], {"sorts": ("lord", "box")})
        house = self.refused_in_turn(least_house, {**start, "sorts": ("box", "box")}, [*steps, misfit])
        self.assertEqual(house.things(), ["a", "b"])

    def test_what_is_told_is_the_askers_own(self):
        scheme = Scheme(["lord", "box"], ["own"])
        rule = rule_of("r", "a", "a own a", "a own a", "a")
        sort_rows(scheme, rule).clear()
        self.assertEqual(sort_rows(rule=rule, scheme=scheme), [("lord",), ("box",)])


class LeastHouses(RefusalCase):
    def setUp(self):
        self.scheme = Scheme(["lord", "box", "bag"], ["own", "use", "know"], None, None, [both()])
        self.rule = rule_of("lend", "z:lord b a", "z own a, z know b", "b use a", "b")

    def test_things_and_holdings(self):
        house = least_house(self.scheme, self.rule, ("lord", "bag", "box"))
        self.assertEqual(shown(house), (
            [("z", "lord", False), ("b", "bag", True), ("a", "box", False)],
            [("z", "know", "b"), ("z", "own", "a")], 3,
        ))
        self.assertIs(house.scheme(), self.scheme)
        self.assertIs(type(house), House)

    def test_each_row(self):
        for row in sort_rows(self.scheme, self.rule):
            house = least_house(self.scheme, self.rule, row)
            self.assertEqual(shown(house), shown(plain_least(self.scheme, self.rule, row)))

    def test_rows_that_are_none(self):
        for row in [
            (), ("lord",), ("lord", "bag"), ("lord", "bag", "box", "box"), ("box", "bag", "box"),
            ("lord", "bag", "crate"), ("lord", None, "box"), ("", "", ""), ("lord", "lord", "Box"),
        ]:
            self.refused("Misfit", ["lend"], least_house, self.scheme, self.rule, row)

    def test_what_is_done_to_one_shows_in_no_other(self):
        row = ("lord", "bag", "box")
        one, other = [least_house(sorts=row, rule=self.rule, scheme=self.scheme) for number in range(2)]
        one.take("z", "own", "a")
        one.sleep("b")
        one.enter("new", "bag")
        self.assertEqual(shown(other), shown(plain_least(self.scheme, self.rule, row)))
        self.assertEqual(shown(least_house(self.scheme, self.rule, row)), shown(other))
        self.assertEqual(self.rule, rule_of("lend", "z:lord b a", "z own a, z know b", "b use a", "b"))


class Follows(RefusalCase):
    def test_a_rule_of_the_scheme(self):
        rule = rule_of("lend", "a:lord b c:box", "a own c, a know b", "b use c", "a")
        self.assertIs(follows(two_sorts([rule]), rule), True)
        self.assertIs(follows(rule=rule, scheme=two_sorts([])), False)

    def test_by_two_rules_one_behind_the_other(self):
        scheme = two_sorts([
            rule_of("first", "a b", "a own b", "a use b", "a"),
            rule_of("then", "a b", "a use b", "b know a", "a"),
        ])
        self.assertIs(follows(scheme, rule_of("r", "x y", "x own y", "y know x", "x")), True)
        self.assertIs(follows(scheme, rule_of("r", "x y", "x own y", "x know y", "x")), False)
        # The same, but for the hand: x sleeps in its least house.
        self.assertIs(follows(scheme, rule_of("r", "x y", "x own y", "y know x", "y")), False)
        # One thing for both variables is another rule.
        self.assertIs(follows(scheme, rule_of("r", "x", "x own x", "x know x", "x")), True)

    def test_by_two_hands_it_does_not(self):
        scheme = two_sorts([
            rule_of("first", "a b", "a own b", "a use b", "a"),
            rule_of("then", "a b", "a use b", "b know a", "b"),
        ])
        for hand in "xy":
            self.assertIs(follows(scheme, rule_of("r", "x y", "x own y", "y know x", hand)), False)

    def test_by_a_made_thing(self):
        makings = [Making("lord", "box", ["own"], [])]
        rules = [
            rule_of("show", "a b c:box", "a own c, a know b", "b use c", "a"),
            rule_of("meet", "a b c:box", "b use c, a own c", "b know a", "a"),
        ]
        greet = rule_of("greet", "a:lord b", "a know b", "b know a", "a")
        self.assertIs(follows(two_sorts(rules, makings), greet), True)
        self.assertIs(follows(two_sorts(rules), greet), False)
        # A box makes no box.
        self.assertIs(follows(two_sorts(rules, makings), rule_of("greet", "a b", "a know b", "b know a", "a")), False)
        # What is made is made by the hand alone.
        self.assertIs(
            follows(two_sorts(rules, makings), rule_of("greet", "a:lord b:lord", "a know b", "b know a", "b")), False,
        )

    def test_the_hand_that_makes_where_no_rule_asks_for_sorts(self):
        makings = [Making("lord", "box", ["own"], [])]
        rules = [rule_of("show", "a b c", "a own c, a know b", "b know a", "a")]
        scheme = two_sorts(rules, makings)
        greet = rule_of("greet", "a b", "a know b", "b know a", "a")
        self.assertEqual(plain_lost(scheme, greet), [("box", "lord"), ("box", "box")])
        self.assertIs(follows(scheme, greet), False)
        self.assertIs(follows(scheme, rule_of("greet", "a:lord b", "a know b", "b know a", "a")), True)
        self.assertEqual(freer(two_sorts([greet], makings), scheme), ("greet", ("box", "lord")))
        self.assertIs(follows(scheme, rule_of("greet", "b a:lord", "a know b", "b know a", "a")), True)
        self.assertIs(follows(scheme, rule_of("greet", "b a:box", "a know b", "b know a", "a")), False)

    def test_for_some_sorts_alone(self):
        scheme = two_sorts([rule_of("r", "a b:box", "a own b", "b own a", "a")])
        self.assertIs(follows(scheme, rule_of("q", "a b:box", "a own b", "b own a", "a")), True)
        self.assertIs(follows(scheme, rule_of("q", "a:lord b:box", "a own b", "b own a", "a")), True)
        self.assertIs(follows(scheme, rule_of("q", "a b:lord", "a own b", "b own a", "a")), False)
        self.assertIs(follows(scheme, rule_of("q", "a b", "a own b", "b own a", "a")), False)

    def test_what_stands_among_the_conditions(self):
        self.assertIs(follows(two_sorts([]), rule_of("r", "a b", "a own b, b own a", "b own a", "b")), True)

    def test_against_a_plain_reckoning(self):
        seen = {True: 0, False: 0}
        for seed in range(300):
            lot = random.Random(seed)
            scheme = few_words_by_lot(lot)
            rule = few_words_by_lot(lot).rules()[0]
            wanted = plain_lost(scheme, rule) == []
            seen[wanted] += 1
            before = told_lists(scheme)
            with self.subTest(seed=seed):
                self.assertIs(follows(scheme, rule), wanted)
                self.assertEqual(told_lists(scheme), before)
        self.assertGreater(min(seen.values()), 30)

    def test_where_it_is_true_the_rule_is_needless(self):
        tried = 0
        for seed in range(300):
            lot = random.Random(seed)
            scheme = few_words_by_lot(lot)
            rule = few_words_by_lot(lot).rules()[0]
            if follows(scheme, rule):
                wider = with_rules(scheme, [*scheme.rules()[1:], *scheme.rules()[:1]][:7])
                rest = [each for each in wider.rules() if each.name != rule.name]
                house = few_words_house_by_lot(lot, scheme)
                with_it = plain_rounds(moved(house, with_rules(scheme, [*rest, rule])))
                without_it = plain_rounds(moved(house, with_rules(scheme, scheme.rules())))
                tried += 1
                self.assertLessEqual(between(house, with_it), between(house, without_it))
        self.assertGreater(tried, 30)


class FreerAndCarried(RefusalCase):
    def test_unlike_in_turn(self):
        makings = [Making("lord", "box", ["own"], []), Making("box", "bag", [], ["use"])]
        rule = rule_of("r", "a b", "a own b", "b own a", "a")
        one = Scheme(["lord", "box", "bag"], ["own", "use"], makings, [rule])
        shuffled = [
            Scheme(["lord", "box", "cup"], ["own", "see"], [Making("lord", "box", [], [])]),
            Scheme(["lord", "box", "bag"], ["own", "see"], [Making("lord", "box", [], [])]),
            Scheme(["lord", "box", "bag"], ["own", "use"], [Making("lord", "box", [], [])]),
        ]
        steps = [
            ("Unlike", ["sorts"], {"other": shuffled[1]}), ("Unlike", ["words"], {"other": shuffled[2]}),
            ("Unlike", ["makings"], {"other": Scheme(["lord", "box", "bag"], ["own", "use"], makings)}),
        ]
        self.assertEqual(
            self.refused_in_turn(freer, {"one": one, "other": shuffled[0]}, steps), ("r", ("lord", "lord")),
        )
        steps.append(("Freer", ["r", ("lord", "lord")], {"other": one}))
        self.assertEqual(len(self.refused_in_turn(carried, {"one": one, "other": shuffled[0]}, steps)), 9)

    def test_unlike_in_their_order_alone(self):
        makings = [Making("lord", "box", ["own", "use"], []), Making("box", "bag", [], [])]
        other_words = [Making("lord", "box", ["use", "own"], []), makings[1]]
        one = Scheme(["lord", "box", "bag"], ["own", "use"], makings)
        others = [
            ("sorts", Scheme(["lord", "bag", "box"], ["own", "use"], [])),
            ("sorts", Scheme(["lord", "box"], ["own", "use"], makings[:1])),
            ("words", Scheme(["lord", "box", "bag"], ["use", "own"], makings)),
            ("words", Scheme(["lord", "box", "bag"], ["own", "use", "see"], makings)),
            ("makings", Scheme(["lord", "box", "bag"], ["own", "use"], makings[::-1])),
            ("makings", Scheme(["lord", "box", "bag"], ["own", "use"], makings[:1])),
            ("makings", Scheme(["lord", "box", "bag"], ["own", "use"], other_words)),
            ("makings", Scheme(["lord", "box", "bag"], ["own", "use"])),
        ]
        for call in (freer, carried):
            for what, other in others:
                self.refused("Unlike", [what], call, one, other)
                self.refused("Unlike", [what], call, other, one)
            self.assertEqual(call(one, Scheme(["lord", "box", "bag"], ["own", "use"], makings)), call(one, one))

    def test_rules_and_bars_may_be_others(self):
        rule = rule_of("r", "a b", "a own b", "b own a", "a")
        bars = [both(), bar_of("never", "a b", "b own a, a own b")]
        one, other = two_sorts([rule], None, bars), two_sorts([rule])
        self.assertIsNone(freer(one, other))
        self.assertIsNone(freer(other, one))
        self.assertEqual(carried(one, other), carried(other, one))
        self.assertIsNone(freer(two_sorts([]), two_sorts([])))
        self.assertEqual(carried(two_sorts([]), one), [])

    def test_the_first_rule_and_the_first_row(self):
        good = rule_of("good", "a b", "a own b", "b own a", "a")
        boxes = rule_of("boxes", "a b:box", "a use b", "b own a", "a")
        last = rule_of("last", "a b", "a know b", "b own a", "a")
        one = two_sorts([good, rule_of("wide", "c d", "c use d", "d own c", "c"), last])
        self.assertEqual(freer(one, two_sorts([good, boxes])), ("wide", ("lord", "lord")))
        lords = rule_of("lords", "a b:lord", "a use b", "b own a", "a")
        self.assertEqual(freer(one, two_sorts([good, lords])), ("wide", ("lord", "box")))
        self.assertEqual(freer(one, two_sorts([good, lords, boxes])), ("last", ("lord", "lord")))
        self.assertEqual(freer(one, two_sorts([])), ("good", ("lord", "lord")))
        self.assertIsNone(freer(other=two_sorts([last, lords, boxes, good]), one=one))
        self.assertEqual(freer(other=two_sorts([]), one=one), ("good", ("lord", "lord")))
        self.refused("Freer", ["wide", ("lord", "box")], carried, one, two_sorts([good, lords]))
        self.refused("Freer", ["last", ("lord", "lord")], carried, other=two_sorts([good, lords, boxes]), one=one)

    def test_the_ways_that_are_told(self):
        rules = [rule_of("first", "a b", "a own b", "a use b", "a"), rule_of("then", "a b", "a use b", "b know a", "a")]
        one = two_sorts([rule_of("r", "x:lord y", "x own y", "y know x", "x")])
        way = [("do", "first", ("x", "y")), ("do", "then", ("x", "y"))]
        told = carried(one, two_sorts(rules))
        self.assertEqual(told, [("r", ("lord", "lord"), way), ("r", ("lord", "box"), way)])
        self.assertEqual((type(told), {type(row) for row in told}), (list, {tuple}))
        told[0][2].clear()
        self.assertEqual(told[1][2], way)
        self.assertEqual(carried(other=two_sorts(rules), one=one)[0][2], way)

    def test_ways_with_made_things(self):
        makings = [Making("lord", "box", ["own"], [])]
        rules = [
            rule_of("show", "a b c:box", "a own c, a know b", "b use c", "a"),
            rule_of("meet", "a b c:box", "b use c, a own c", "b know a", "a"),
        ]
        one = two_sorts([rule_of("greet", "a:lord m1:box", "a know m1", "m1 know a", "a")], makings)
        self.assertEqual(carried(one, two_sorts(rules, makings)), [("greet", ("lord", "box"), [
            ("make", "a", "box", "m2"), ("do", "show", ("a", "m1", "m2")), ("do", "meet", ("a", "m1", "m2")),
        ])])

    def fits(self, one, other, told):
        """Each way is one, none of whose deeds can be spared."""
        wanted = [(rule.name, row) for rule in one.rules() for row in plain_rows(other, rule)]
        self.assertEqual([(name, row) for name, row, way in told], wanted)
        for name, row, way in told:
            rule = one.rule(name)
            house = plain_least(other, rule, row)
            self.assertTrue(after(house, way).holds(*rule.gives))
            for many in range(len(way)):
                for some in itertools.combinations(way, many):
                    self.assertFalse(passing_over(house, some, play).holds(*rule.gives))

    def test_against_a_plain_reckoning(self):
        seen = {True: 0, False: 0}
        longest = 0
        for seed in range(250):
            lot = random.Random(seed)
            one, other = pair_by_lot(lot)
            before = [told_lists(one), told_lists(other)]
            wanted = plain_freer(one, other)
            seen[wanted is None] += 1
            with self.subTest(seed=seed):
                self.assertEqual(freer(one, other), wanted)
                if wanted is None:
                    told = carried(one, other)
                    self.fits(one, other, told)
                    longest = max([longest] + [len(way) for name, row, way in told])
                else:
                    self.refused("Freer", wanted, carried, one, other)
                self.assertEqual([told_lists(one), told_lists(other)], before)
        self.assertGreater(min(seen.values()), 40)
        self.assertGreater(longest, 1)

    def test_long_ways(self):
        words = ["p", "q", "r", "s", "t"]
        for seed in range(30):
            lot = random.Random(seed)
            # The words go round between x and y, turned or not, always by the hand of x.
            pair, rules = ("x", "y"), []
            for word, later in zip(words, words[1:]):
                turned = lot.random() < 0.5
                gives = ("b", later, "a") if turned else ("a", later, "b")
                hand = "ab"[pair.index("x")]
                rules.append(rule_of(word, "a b", "a " + word + " b", " ".join(gives), hand))
                pair = pair[::-1] if turned else pair
            lot.shuffle(rules)
            far = rule_of("far", "x y:box", "x p y", pair[0] + " t " + pair[1], "x")
            one, other = [Scheme(["lord", "box"], words, None, some) for some in ([far], rules)]
            told = carried(one, other)
            self.assertEqual([len(way) for name, row, way in told], [4, 4])
            self.fits(one, other, told)
            for rule in rules:
                self.assertEqual(freer(one, other.without_rule(rule.name)), ("far", ("lord", "box")))

    def test_what_it_means_for_houses(self):
        told = 0
        for seed in range(250):
            lot = random.Random(seed)
            one, other = pair_by_lot(lot)
            found = freer(one, other)
            if found is None:
                house = few_words_house_by_lot(lot, one)
                mine, theirs = plain_rounds(house), plain_rounds(moved(house, other))
                self.assertLessEqual(between(house, mine), between(house, theirs))
            else:
                rule = one.rule(found[0])
                self.assertIs(may(plain_least(one, rule, found[1]), *rule.gives), True)
                self.assertIs(may(plain_least(other, rule, found[1]), *rule.gives), False)
                told += 1
        self.assertGreater(told, 40)


class Leaner(RefusalCase):
    def names(self, scheme):
        return [rule.name for rule in leaner(scheme).rules()]

    def test_needless_rules_go(self):
        rules = [
            rule_of("both", "a b", "a own b", "b know a", "a"),
            rule_of("first", "a b", "a own b", "a use b", "a"),
            rule_of("again", "x y:box", "x own y", "x use y", "x"),
            rule_of("then", "a b", "a use b", "b know a", "a"),
            rule_of("idle", "a b", "a own b, b own a", "b own a", "b"),
        ]
        bars = [both()]
        makings = [Making("lord", "box", ["own"], ["know"])]
        scheme = two_sorts(rules, makings, bars)
        before = told_lists(scheme)
        lean = leaner(scheme)
        self.assertIs(type(lean), Scheme)
        self.assertEqual(told_lists(lean), [["lord", "box"], ["own", "use", "know"], makings, [rules[1], rules[3]], bars])
        self.assertEqual(told_lists(scheme), before)
        self.assertEqual(told_lists(leaner(scheme=lean)), told_lists(lean))

    def test_of_two_that_make_each_other_needless_the_first_goes(self):
        one = rule_of("one", "a b", "a own b", "b use a", "a")
        other = rule_of("other", "p q", "q own p", "p use q", "q")
        self.assertEqual(self.names(two_sorts([one, other])), ["other"])
        self.assertEqual(self.names(two_sorts([other, one])), ["one"])

    def test_those_left_out_before_help_no_more(self):
        # Each follows from any of the others: the last one is needed once the others are gone.
        alike = [rule_of(name, "a b", "a own b", "a use b", "a") for name in ("one", "two", "three")]
        self.assertEqual(self.names(two_sorts(alike)), ["three"])
        # The first follows by the second and third, which are needed from then on.
        rules = [
            rule_of("far", "a b", "a own b", "b know a", "a"),
            rule_of("near", "a b", "a own b", "a use b", "a"),
            rule_of("last", "a b", "a use b", "b know a", "a"),
        ]
        for row in itertools.permutations(rules):
            left = [rule.name for rule in row if rule.name != "far"]
            self.assertEqual(self.names(two_sorts(row)), left)

    def test_nothing_is_needless(self):
        rules = [rule_of("first", "a b", "a own b", "a use b", "a"), rule_of("then", "a b", "a use b", "b know a", "b")]
        scheme = two_sorts(rules)
        self.assertEqual(told_lists(leaner(scheme)), told_lists(scheme))
        self.assertEqual(self.names(two_sorts([])), [])

    def test_against_a_plain_reckoning(self):
        gone = 0
        for seed in range(200):
            lot = random.Random(seed)
            scheme = few_words_by_lot(lot, 6)
            before = told_lists(scheme)
            with self.subTest(seed=seed):
                lean = leaner(scheme)
                self.assertEqual(told_lists(lean), told_lists(plain_leaner(scheme)))
                self.assertEqual(told_lists(leaner(lean)), told_lists(lean))
                self.assertEqual(told_lists(scheme), before)
                house = few_words_house_by_lot(lot, scheme)
                more, less = plain_rounds(house), plain_rounds(moved(house, lean))
                self.assertEqual(between(house, more), between(house, less))
                gone += len(scheme.rules()) - len(lean.rules())
        self.assertGreater(gone, 60)


if __name__ == "__main__":
    unittest.main()
