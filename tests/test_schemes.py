"""Points 9 to 12: schemes, their refusals, what they tell, and one thing more or less."""

import unittest

from tests.helper import RefusalCase, both, box_making, lend, small_scheme, told_lists
from whomay.patterns import Bar, Making, Rule
from whomay.schemes import Scheme


def rule_named(name, sort=None, word="own", gives="own"):
    return Rule(name, [("a", sort)], [("a", word, "a")], ("a", gives, "a"), "a")


def bar_named(name, sort=None, word="own"):
    return Bar(name, [("a", sort)], [("a", word, "a")])


def rules_named(many):
    return [rule_named("r" + str(at)) for at in range(many)]


def bars_named(many):
    return [bar_named("b" + str(at)) for at in range(many)]


class Lists(RefusalCase):
    def test_told_in_the_order_in_which_they_were_handed_in(self):
        makings = [Making("lord", "bag", [], []), Making("lord", "box", ["use"], []), Making("box", "bag", [], [])]
        rules = [rule_named("z"), rule_named("a"), rule_named("m")]
        bars = [bar_named("y"), bar_named("b")]
        scheme = Scheme(["lord", "box", "bag"], ["use", "own"], makings, rules, bars)
        self.assertEqual(scheme.sorts(), ["lord", "box", "bag"])
        self.assertEqual(scheme.words(), ["use", "own"])
        self.assertEqual(scheme.makings(), makings)
        self.assertEqual(scheme.rules(), rules)
        self.assertEqual(scheme.bars(), bars)
        for told in told_lists(scheme):
            self.assertIs(type(told), list)

    def test_by_name_in_another_order(self):
        scheme = Scheme(
            bars=[both()], rules=[lend()], makings=[box_making()], words=["own", "use", "know"],
            sorts=["lord", "box", "bag"],
        )
        self.assertEqual(told_lists(scheme), told_lists(small_scheme()))
        scheme = Scheme(words=["own"], sorts=["lord"], bars=[bar_named("b")])
        self.assertEqual(told_lists(scheme), [["lord"], ["own"], [], [], [bar_named("b")]])

    def test_left_out_or_none_are_none(self):
        bare = [["lord"], ["own"], [], [], []]
        self.assertEqual(told_lists(Scheme(["lord"], ["own"])), bare)
        self.assertEqual(told_lists(Scheme(["lord"], ["own"], None, None, None)), bare)
        self.assertEqual(told_lists(Scheme(["lord"], ["own"], [], [], [])), bare)
        self.assertEqual(told_lists(Scheme(["lord"], ["own"], bars=None, makings=[])), bare)

    def test_lists_that_are_handed_in_and_changed_afterwards_change_nothing(self):
        sorts, words, makings = ["lord", "box"], ["own", "use", "know"], [box_making()]
        rules, bars = [lend()], [both()]
        scheme = Scheme(sorts, words, makings, rules, bars)
        self.assertEqual((sorts, words), (["lord", "box"], ["own", "use", "know"]))
        self.assertEqual((makings, rules, bars), ([box_making()], [lend()], [both()]))
        before = told_lists(scheme)
        sorts.append("bag")
        words.reverse()
        makings.clear()
        rules.append(rule_named("more"))
        bars[0] = bar_named("other")
        self.assertEqual(told_lists(scheme), before)
        self.assertEqual(scheme.sorts(), ["lord", "box"])

    def test_lists_that_are_told_and_changed_afterwards_change_nothing(self):
        scheme = small_scheme()
        for told in told_lists(scheme):
            told.append("more")
        self.assertEqual(told_lists(scheme), told_lists(small_scheme()))
        for told in told_lists(scheme):
            told.clear()
        self.assertEqual(told_lists(scheme), told_lists(small_scheme()))
        self.assertEqual(scheme.rule("lend"), lend())
        self.assertEqual(scheme.bar("both"), both())
        self.assertEqual(told_lists(scheme.with_bar(bar_named("b")))[:4], told_lists(small_scheme())[:4])

    def test_rule_and_bar_by_name(self):
        scheme = Scheme(["lord"], ["own"], None, rules_named(3), bars_named(3))
        for at in range(3):
            self.assertEqual(scheme.rule("r" + str(at)), rule_named("r" + str(at)))
            self.assertEqual(scheme.rule(name="r" + str(at)), rule_named("r" + str(at)))
            self.assertEqual(scheme.bar("b" + str(at)), bar_named("b" + str(at)))
            self.assertEqual(scheme.bar(name="b" + str(at)), bar_named("b" + str(at)))
        for name in ["b0", "r3", "", "R0", "no name"]:
            self.refused("NoRule", [name], scheme.rule, name)
        for name in ["r0", "b3", "", "B0", "no name"]:
            self.refused("NoBar", [name], scheme.bar, name)
        self.refused("NoRule", ["r"], Scheme(["lord"], ["own"]).rule, "r")
        self.refused("NoBar", ["b"], Scheme(["lord"], ["own"]).bar, "b")

    def test_a_rule_and_a_bar_of_one_name(self):
        scheme = Scheme(["lord"], ["own"], None, [rule_named("same")], [bar_named("same")])
        self.assertEqual(scheme.rule("same"), rule_named("same"))
        self.assertEqual(scheme.bar("same"), bar_named("same"))
        self.assertEqual(told_lists(scheme.without_rule("same"))[3:], [[], [bar_named("same")]])
        self.assertEqual(told_lists(scheme.without_bar("same"))[3:], [[rule_named("same")], []])

    def test_a_sort_and_a_word_of_one_name(self):
        scheme = Scheme(["lord", "own"], ["own", "lord"])
        self.assertEqual((scheme.sorts(), scheme.words()), (["lord", "own"], ["own", "lord"]))


class Counts(RefusalCase):
    def at_edge(self, what, many, fits, **named):
        with self.subTest(what=what, many=many):
            if fits:
                self.assertEqual(len(getattr(Scheme(**named), what)()), many)
            else:
                self.refused("BadCount", [what, many], Scheme, **named)

    def test_sorts(self):
        for many in range(0, 7):
            sorts = ["s" + str(at) for at in range(many)]
            self.at_edge("sorts", many, 1 <= many <= 4, sorts=sorts, words=["own"])

    def test_words(self):
        for many in range(0, 8):
            words = ["w" + str(at) for at in range(many)]
            self.at_edge("words", many, 1 <= many <= 5, sorts=["lord"], words=words)

    def test_rules(self):
        for many in range(0, 11):
            self.at_edge("rules", many, many <= 8, sorts=["lord"], words=["own"], rules=rules_named(many))

    def test_bars(self):
        for many in range(0, 7):
            self.at_edge("bars", many, many <= 4, sorts=["lord"], words=["own"], bars=bars_named(many))

    def test_all_makings_that_go_down(self):
        sorts = ["s0", "s1", "s2", "s3"]
        makings = [Making(sorts[up], sorts[down], ["own"], []) for up in range(4) for down in range(up + 1, 4)]
        self.assertEqual(Scheme(sorts, ["own"], makings).makings(), makings)

    def test_with_rule_and_with_bar(self):
        scheme = Scheme(["lord"], ["own"])
        for at in range(8):
            scheme = scheme.with_rule(rule_named("r" + str(at)))
        for at in range(4):
            scheme = scheme.with_bar(bar_named("b" + str(at)))
        self.assertEqual(told_lists(scheme)[3:], [rules_named(8), bars_named(4)])
        self.refused("BadCount", ["rules", 9], scheme.with_rule, rule_named("r8"))
        self.refused("BadCount", ["rules", 9], scheme.with_rule, rule_named("r0", "king", "eat"))
        self.refused("BadCount", ["bars", 5], scheme.with_bar, bar_named("b4"))
        self.refused("BadCount", ["bars", 5], scheme.with_bar, bar_named("b0", "king", "eat"))
        self.assertEqual(told_lists(scheme)[3:], [rules_named(8), bars_named(4)])


class Order(RefusalCase):
    """At each step the told refusal is due and so are all behind it."""

    def test_all_refusals_in_turn(self):
        bad_makings = [
            Making("king", "pawn", ["eat"], ["sip"]),
            Making("cook", "pawn", ["dig"], []),
            Making("king", "pawn", [], []),
        ]
        upward = Making("box", "lord", [], [])
        bad_rules = [
            Rule("r1", [("a", "k1"), ("b", None), ("c", "k2")],
                 [("a", "e1", "b"), ("b", "e2", "c")], ("a", "e3", "c"), "a"),
            rule_named("r2", "k3", "e4", "e5"),
        ]
        good_sort_rules = [
            Rule("r1", [("a", "lord"), ("b", None), ("c", "box")],
                 [("a", "e1", "b"), ("b", "e2", "c")], ("a", "e3", "c"), "a"),
            rule_named("r2", "box", "e4", "e5"),
        ]
        bad_bars = [
            Bar("b1", [("a", "k4"), ("b", "k5")], [("a", "e6", "b"), ("a", "e7", "b")]),
            bar_named("b2", "k6", "e8"),
        ]
        good_sort_bars = [
            Bar("b1", [("a", None), ("b", "bag")], [("a", "e6", "b"), ("a", "e7", "b")]),
            bar_named("b2", None, "e8"),
        ]
        start = {
            "sorts": [],
            "words": [],
            "makings": bad_makings,
            "rules": [*bad_rules, bad_rules[0], *rules_named(6)],
            "bars": [*bad_bars, bad_bars[0], *bars_named(2)],
        }
        sorts_left = ["lord", "box", "bag"]

        scheme = self.refused_in_turn(Scheme, start, [
            ("BadCount", ["sorts", 0], {"sorts": ["lord", "lord", "S1", "S2", "S2"]}),
            ("BadCount", ["sorts", 5], {"sorts": ["lord", "lord", "S1", "S2"]}),
            ("BadCount", ["words", 0], {"words": ["own", "own", "W1", "W2", "use", "use"]}),
            ("BadCount", ["words", 6], {"words": ["own", "own", "W1", "W2", "use"]}),
            ("BadCount", ["rules", 9], {"rules": [*bad_rules, bad_rules[0]]}),
            ("BadCount", ["bars", 5], {"bars": [*bad_bars, bad_bars[0]]}),
            ("NoName", ["S1"], {"sorts": ["lord", "lord", "box", "S2"]}),
            ("NoName", ["S2"], {"sorts": ["lord", "lord", "box", "box"]}),
            ("NoName", ["W1"], {"words": ["own", "own", "use", "W2"]}),
            ("NoName", ["W2"], {"words": ["own", "own", "use", "use"]}),
            ("Twice", ["lord"], {"sorts": ["lord", "box", "box", "bag"]}),
            ("Twice", ["box"], {"sorts": sorts_left}),
            ("Twice", ["own"], {"words": ["own", "use", "use"]}),
            ("Twice", ["use"], {"words": ["own", "use"]}),
            ("Twice", ["king"], {"makings": [*bad_makings[:2], upward]}),
            ("Twice", ["r1"], {"rules": bad_rules}),
            ("Twice", ["b1"], {"bars": bad_bars}),
            ("NoSort", ["king"], {"makings": [Making("lord", "pawn", ["eat"], ["sip"]), bad_makings[1], upward]}),
            ("NoSort", ["pawn"], {"makings": [Making("lord", "box", ["eat"], ["sip"]), bad_makings[1], upward]}),
            ("NoSort", ["cook"],
             {"makings": [Making("lord", "box", ["eat"], ["sip"]), Making("box", "pawn", ["dig"], []), upward]}),
            ("NoSort", ["pawn"],
             {"makings": [Making("lord", "box", ["eat"], ["sip"]), Making("box", "bag", ["dig"], []), upward]}),
            ("NoSort", ["k1"], {"rules": [
                Rule("r1", [("a", "box"), ("b", None), ("c", "k2")],
                     [("a", "e1", "b"), ("b", "e2", "c")], ("a", "e3", "c"), "a"), bad_rules[1]]}),
            ("NoSort", ["k2"], {"rules": [good_sort_rules[0], bad_rules[1]]}),
            ("NoSort", ["k3"], {"rules": good_sort_rules}),
            ("NoSort", ["k4"], {"bars": [
                Bar("b1", [("a", "bag"), ("b", "k5")], [("a", "e6", "b"), ("a", "e7", "b")]), bad_bars[1]]}),
            ("NoSort", ["k5"], {"bars": [good_sort_bars[0], bad_bars[1]]}),
            ("NoSort", ["k6"], {"bars": good_sort_bars}),
            ("Upward", ["box", "lord"],
             {"makings": [Making("lord", "box", ["eat"], ["sip"]), Making("box", "bag", ["dig"], [])]}),
            ("NoWord", ["eat"],
             {"makings": [Making("lord", "box", ["use"], ["sip"]), Making("box", "bag", ["dig"], [])]}),
            ("NoWord", ["sip"], {"makings": [Making("lord", "box", ["use"], ["own"]), Making("box", "bag", ["dig"], [])]}),
            ("NoWord", ["dig"], {"makings": [Making("lord", "box", ["use"], ["own"])]}),
            ("NoWord", ["e1"], {"rules": [
                Rule("r1", [("a", "lord"), ("b", None), ("c", "box")],
                     [("a", "own", "b"), ("b", "e2", "c")], ("a", "e3", "c"), "a"), good_sort_rules[1]]}),
            ("NoWord", ["e2"], {"rules": [
                Rule("r1", [("a", "lord"), ("b", None), ("c", "box")],
                     [("a", "own", "b"), ("b", "own", "c")], ("a", "e3", "c"), "a"), good_sort_rules[1]]}),
            ("NoWord", ["e3"], {"rules": good_sort_rules[1:]}),
            ("NoWord", ["e4"], {"rules": [rule_named("r2", "box", "own", "e5")]}),
            ("NoWord", ["e5"], {"rules": [rule_named("r2", "box", "own", "use")]}),
            ("NoWord", ["e6"], {"bars": [
                Bar("b1", [("a", None), ("b", "bag")], [("a", "own", "b"), ("a", "e7", "b")]), good_sort_bars[1]]}),
            ("NoWord", ["e7"], {"bars": good_sort_bars[1:]}),
            ("NoWord", ["e8"], {"bars": [bar_named("b2")]}),
        ])
        self.assertEqual(told_lists(scheme), [
            sorts_left,
            ["own", "use"],
            [Making("lord", "box", ["use"], ["own"])],
            [rule_named("r2", "box", "own", "use")],
            [bar_named("b2")],
        ])

    def test_makings_of_one_maker_or_of_one_made(self):
        sorts = ["lord", "box", "bag"]
        makings = [Making("lord", "box", [], []), Making("lord", "bag", [], []), Making("box", "bag", [], [])]
        self.assertEqual(Scheme(sorts, ["own"], makings).makings(), makings)
        more = [*makings, Making("box", "bag", ["own"], [])]
        self.refused("Twice", ["box"], Scheme, sorts, ["own"], more)

    def test_upward(self):
        sorts = ["lord", "box", "bag"]
        for up in range(3):
            for down in range(3):
                with self.subTest(maker=sorts[up], made=sorts[down]):
                    making = Making(sorts[up], sorts[down], [], [])
                    if down > up:
                        self.assertEqual(Scheme(sorts, ["own"], [making]).makings(), [making])
                    else:
                        self.refused("Upward", [sorts[up], sorts[down]], Scheme, sorts, ["own"], [making])

    def test_the_first_upward_making_is_told(self):
        makings = [Making("lord", "box", [], []), Making("bag", "box", [], []), Making("box", "box", [], [])]
        self.refused("Upward", ["bag", "box"], Scheme, ["lord", "box", "bag"], ["own"], makings)

    def test_a_sort_stands_for_no_word_and_no_word_for_a_sort(self):
        self.refused("NoSort", ["own"], Scheme, ["lord"], ["own"], None, [rule_named("r", "own")])
        self.refused("NoWord", ["lord"], Scheme, ["lord"], ["own"], None, None, [bar_named("b", None, "lord")])


class OneMoreOrLess(RefusalCase):
    def test_with_puts_one_behind_the_others(self):
        scheme = small_scheme()
        before = told_lists(small_scheme())
        more = rule_named("aaa", "bag", "use", "know")
        self.assertEqual(scheme.with_rule(more).rules(), [lend(), more])
        self.assertEqual(scheme.with_rule(rule=more).rules(), [lend(), more])
        self.assertEqual(told_lists(scheme), before)
        wider = told_lists(scheme.with_rule(more))
        self.assertEqual(wider[:3] + wider[4:], before[:3] + before[4:])
        bar = bar_named("aaa", "bag", "use")
        self.assertEqual(scheme.with_bar(bar).bars(), [both(), bar])
        self.assertEqual(scheme.with_bar(bar=bar).bars(), [both(), bar])
        self.assertEqual(told_lists(scheme), before)
        self.assertEqual(told_lists(scheme.with_bar(bar))[:4], before[:4])
        making = Making("box", "bag", ["use"], ["know"])
        self.assertEqual(scheme.with_making(making).makings(), [box_making(), making])
        self.assertEqual(scheme.with_making(making=making).makings(), [box_making(), making])
        self.assertEqual(told_lists(scheme), before)
        wider = told_lists(scheme.with_making(making))
        self.assertEqual(wider[:2] + wider[3:], before[:2] + before[3:])

    def test_with_is_refused_as_a_scheme_is(self):
        scheme = small_scheme()
        before = told_lists(scheme)
        self.refused("Twice", ["lend"], scheme.with_rule, rule_named("lend", "king", "eat"))
        self.refused("NoSort", ["king"], scheme.with_rule, rule_named("r", "king", "eat"))
        self.refused("NoWord", ["eat"], scheme.with_rule, rule_named("r", "box", "eat", "sip"))
        self.refused("NoWord", ["sip"], scheme.with_rule, rule_named("r", "box", "own", "sip"))
        self.refused("Twice", ["both"], scheme.with_bar, bar_named("both", "king", "eat"))
        self.refused("NoSort", ["king"], scheme.with_bar, bar_named("b", "king", "eat"))
        self.refused("NoWord", ["eat"], scheme.with_bar, bar_named("b", "box", "eat"))
        self.refused("Twice", ["lord"], scheme.with_making, Making("lord", "box", ["eat"], []))
        self.refused("NoSort", ["king"], scheme.with_making, Making("king", "pawn", ["eat"], []))
        self.refused("NoSort", ["pawn"], scheme.with_making, Making("lord", "pawn", ["eat"], []))
        self.refused("Upward", ["bag", "box"], scheme.with_making, Making("bag", "box", ["eat"], []))
        self.refused("NoWord", ["eat"], scheme.with_making, Making("box", "bag", ["eat"], ["sip"]))
        self.refused("NoWord", ["sip"], scheme.with_making, Making("box", "bag", ["own"], ["sip"]))
        self.assertEqual(told_lists(scheme), before)

    def test_without_leaves_one_out(self):
        makings = [Making("lord", "box", [], []), Making("lord", "bag", ["own"], []), Making("box", "bag", [], [])]
        scheme = Scheme(["lord", "box", "bag"], ["own"], makings, rules_named(3), bars_named(3))
        before = told_lists(scheme)
        for at in range(3):
            less = told_lists(scheme.without_rule("r" + str(at)))
            self.assertEqual(less, [*before[:3], before[3][:at] + before[3][at + 1:], before[4]])
            less = told_lists(scheme.without_bar(name="b" + str(at)))
            self.assertEqual(less, [*before[:4], before[4][:at] + before[4][at + 1:]])
            less = told_lists(scheme.without_making(makings[at].maker, makings[at].made))
            self.assertEqual(less, [*before[:2], before[2][:at] + before[2][at + 1:], *before[3:]])
            self.assertEqual(told_lists(scheme), before)
        self.assertEqual(scheme.without_rule(name="r1").rules(), [rule_named("r0"), rule_named("r2")])
        self.assertEqual(scheme.without_making(made="bag", maker="lord").makings(), [makings[0], makings[2]])

    def test_without_what_is_not_there(self):
        scheme = small_scheme()
        before = told_lists(scheme)
        for name in ["both", "", "LEND", "no name"]:
            self.refused("NoRule", [name], scheme.without_rule, name)
        for name in ["lend", "", "BOTH", "no name"]:
            self.refused("NoBar", [name], scheme.without_bar, name)
        for pair in [("box", "bag"), ("box", "lord"), ("lord", "bag"), ("bag", "box"), ("king", ""), ("", "box")]:
            self.refused("NoMaking", pair, scheme.without_making, *pair)
        self.refused("NoMaking", ["lord", "bag"], scheme.without_making, made="bag", maker="lord")
        self.refused("NoRule", ["lend"], scheme.without_rule("lend").without_rule, "lend")
        self.refused("NoBar", ["both"], scheme.without_bar("both").without_bar, "both")
        bare = scheme.without_making("lord", "box")
        self.refused("NoMaking", ["lord", "box"], bare.without_making, "lord", "box")
        self.assertEqual(told_lists(scheme), before)

    def test_the_last_ones_can_be_left_out_and_put_in_again(self):
        scheme = small_scheme()
        bare = scheme.without_rule("lend").without_bar("both").without_making("lord", "box")
        self.assertEqual(told_lists(bare), [["lord", "box", "bag"], ["own", "use", "know"], [], [], []])
        whole = bare.with_making(box_making()).with_bar(both()).with_rule(lend())
        self.assertEqual(told_lists(whole), told_lists(scheme))
        self.assertEqual(told_lists(bare)[2:], [[], [], []])

    def test_a_new_scheme_is_a_scheme(self):
        scheme = small_scheme()
        for other in [
            scheme.with_rule(rule_named("r")), scheme.with_bar(bar_named("b")),
            scheme.with_making(Making("box", "bag", [], [])), scheme.without_rule("lend"),
            scheme.without_bar("both"), scheme.without_making("lord", "box"),
        ]:
            self.assertIsInstance(other, Scheme)
            self.assertIsNot(other, scheme)


if __name__ == "__main__":
    unittest.main()
