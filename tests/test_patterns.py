"""Points 4 to 8 and 46: rules, bars and makings, their refusals, `==` and `str`."""

import unittest

from tests.helper import RefusalCase, both, box_making, lend
from whomay.patterns import Bar, Making, Rule


def variables_of(*names):
    return [(name, None) for name in names]


class Fields(RefusalCase):
    def test_fields_of_a_rule(self):
        rule = lend()
        self.assertEqual(rule.name, "lend")
        self.assertEqual(rule.variables, (("a", "lord"), ("b", None), ("c", "box")))
        self.assertEqual(rule.conditions, (("a", "own", "c"), ("a", "know", "b")))
        self.assertEqual(rule.gives, ("b", "use", "c"))
        self.assertEqual(rule.by, "a")

    def test_fields_of_a_bar(self):
        bar = both()
        self.assertEqual(bar.name, "both")
        self.assertEqual(bar.variables, (("a", None), ("b", None)))
        self.assertEqual(bar.conditions, (("a", "own", "b"), ("a", "use", "b")))

    def test_fields_of_a_making(self):
        making = Making("lord", "box", ["own", "use"], ["use", "know"])
        self.assertEqual((making.maker, making.made), ("lord", "box"))
        self.assertEqual((making.down, making.up), (("own", "use"), ("use", "know")))

    def test_arguments_by_name_in_another_order(self):
        rule = Rule(
            by="a",
            gives=("b", "use", "c"),
            conditions=[("a", "own", "c"), ("a", "know", "b")],
            variables=[("a", "lord"), ("b", None), ("c", "box")],
            name="lend",
        )
        self.assertEqual(rule, lend())
        bar = Bar(
            conditions=[("a", "own", "b"), ("a", "use", "b")], variables=[("a", None), ("b", None)], name="both"
        )
        self.assertEqual(bar, both())
        self.assertEqual(Making(up=[], down=["own", "use"], made="box", maker="lord"), box_making())

    def test_lists_changed_afterwards_change_nothing(self):
        variables = [("a", None), ("b", "box")]
        conditions = [("a", "own", "b")]
        rule = Rule("r", variables, conditions, ("b", "own", "a"), "b")
        bar = Bar("r", variables, conditions)
        row = str(rule), str(bar)
        variables.append(("c", None))
        variables[0] = ("z", None)
        conditions.append(("a", "use", "b"))
        conditions[0] = ("b", "own", "a")
        for pattern in (rule, bar):
            self.assertEqual(pattern.variables, (("a", None), ("b", "box")))
            self.assertEqual(pattern.conditions, (("a", "own", "b"),))
        self.assertEqual((str(rule), str(bar)), row)
        down, up = ["own"], ["use"]
        making = Making("lord", "box", down, up)
        down.append("know")
        up.clear()
        self.assertEqual((making.down, making.up), (("own",), ("use",)))

    def test_what_is_handed_in_is_left_as_it_is(self):
        variables, conditions = [("a", None), ("b", "box")], [("a", "own", "b")]
        Rule("r", variables, conditions, ("b", "own", "a"), "b")
        Bar("r", variables, conditions)
        self.refused("NoVariable", ["q"], Rule, "r", variables, conditions, ("q", "own", "a"), "b")
        self.assertEqual((variables, conditions), ([("a", None), ("b", "box")], [("a", "own", "b")]))
        down, up = ["use", "own"], ["know", "own"]
        Making("lord", "box", down, up)
        self.assertEqual((down, up), (["use", "own"], ["know", "own"]))

    def test_both_variables_of_a_condition_may_be_one(self):
        bar = Bar("self1", [("a", None)], [("a", "own", "a")])
        self.assertEqual(bar.conditions, (("a", "own", "a"),))
        rule = Rule("self1", [("a", None)], [("a", "own", "a")], ("a", "use", "a"), "a")
        self.assertEqual(rule.gives, ("a", "use", "a"))

    def test_neither_class_stands_under_the_other(self):
        self.assertNotIsInstance(lend(), Bar)
        self.assertNotIsInstance(both(), Rule)


class Counts(RefusalCase):
    def test_variables(self):
        for many in range(0, 7):
            names = ["v" + str(at) for at in range(many)]
            conditions = [("v0", "own", "v1"), ("v1", "own", "v2"), ("v2", "own", "v3")][: max(1, many - 1)]
            if many == 1:
                conditions = [("v0", "own", "v0")]
            with self.subTest(many=many):
                if 1 <= many <= 4:
                    self.assertEqual(len(Bar("b", variables_of(*names), conditions).variables), many)
                    rule = Rule("r", variables_of(*names), conditions, ("v0", "own", "v0"), "v0")
                    self.assertEqual(len(rule.variables), many)
                else:
                    told = ["variables", many]
                    self.refused("BadCount", told, Bar, "b", variables_of(*names), conditions)
                    gives = ("v0", "own", "v0")
                    self.refused("BadCount", told, Rule, "r", variables_of(*names), conditions, gives, "v0")

    def test_conditions(self):
        row = [("a", "own", "b"), ("b", "use", "a"), ("a", "own", "a"), ("b", "own", "b"), ("a", "use", "a")]
        for many in range(0, 6):
            with self.subTest(many=many):
                parts = ("n", variables_of("a", "b"), row[:many])
                if 1 <= many <= 3:
                    self.assertEqual(Bar(*parts).conditions, tuple(row[:many]))
                    self.assertEqual(Rule(*parts, ("a", "own", "b"), "a").conditions, tuple(row[:many]))
                else:
                    self.refused("BadCount", ["conditions", many], Bar, *parts)
                    self.refused("BadCount", ["conditions", many], Rule, *parts, ("a", "own", "b"), "a")

    def test_one_condition_may_stand_twice(self):
        bar = Bar("b", variables_of("a"), [("a", "own", "a"), ("a", "own", "a")])
        self.assertEqual(len(bar.conditions), 2)


class Order(RefusalCase):
    """At each step the told refusal is due and so are all behind it."""

    # Two conditions, so that variables, words and ends can be amiss at either.
    PATTERN_START = {"name": "N!", "variables": [], "conditions": []}

    def pattern_steps(self, behind_words, behind_ends):
        """The steps for the parts that rules and bars have alike, with a rule's own ones put in."""
        four = [("V1", "S1"), ("V2", "S2"), ("a", None), ("a", None)]
        bad_words = [("q1", "W1", "q2"), ("q3", "W2", "q4")]
        bad_ends = [("q1", "own", "q2"), ("q3", "own", "q4")]
        return [
            ("BadCount", ["variables", 0], {"variables": variables_of("V1", "V2", "a", "a", "b")}),
            ("BadCount", ["variables", 5], {"variables": four}),
            ("BadCount", ["conditions", 0], {"conditions": [*bad_words, *bad_words]}),
            ("BadCount", ["conditions", 4], {"conditions": bad_words}),
            ("NoName", ["N!"], {"name": "n"}),
            ("NoName", ["V1"], {"variables": [("v1", "S1"), *four[1:]]}),
            ("NoName", ["S1"], {"variables": [("v1", None), *four[1:]]}),
            ("NoName", ["V2"], {"variables": [("v1", None), ("v1", "S2"), *four[2:]]}),
            ("NoName", ["S2"], {"variables": [("v1", "box"), ("v1", None), *four[2:]]}),
            ("NoName", ["W1"], {"conditions": [bad_ends[0], bad_words[1]]}),
            ("NoName", ["W2"], {"conditions": bad_ends}),
            *behind_words,
            ("Twice", ["v1"], {"variables": [("v1", "box"), ("v2", None), *four[2:]]}),
            ("Twice", ["a"], {"variables": variables_of("v1", "v2", "a", "b")}),
            ("NoVariable", ["q1"], {"conditions": [("v2", "own", "q2"), bad_ends[1]]}),
            ("NoVariable", ["q2"], {"conditions": [("v2", "own", "v2"), bad_ends[1]]}),
            ("NoVariable", ["q3"], {"conditions": [("v2", "own", "v2"), ("b", "own", "q4")]}),
            ("NoVariable", ["q4"], {"conditions": [("v2", "own", "v2"), ("b", "own", "b")]}),
            *behind_ends,
            ("Loose", ["v1"], {"conditions": [("v2", "own", "v1"), ("b", "own", "b")]}),
            ("Loose", ["a"], {"conditions": [("v2", "own", "v1"), ("a", "own", "b")]}),
            ("Apart", [1], {"conditions": [("v2", "own", "v1"), ("v1", "own", "b"), ("a", "own", "b")]}),
        ]

    def test_bar(self):
        bar = self.refused_in_turn(Bar, self.PATTERN_START, self.pattern_steps([], []))
        self.assertEqual(str(bar), "bar n v1 v2 a b | v2 own v1 | v1 own b | a own b")

    def test_rule(self):
        start = dict(self.PATTERN_START, gives=("q5", "W3", "q6"), by="q7")
        behind_words = [("NoName", ["W3"], {"gives": ("q5", "own", "q6")})]
        behind_ends = [
            ("NoVariable", ["q5"], {"gives": ("v1", "own", "q6")}),
            ("NoVariable", ["q6"], {"gives": ("v1", "own", "v1")}),
            ("NoVariable", ["q7"], {"by": "v1"}),
        ]
        rule = self.refused_in_turn(Rule, start, self.pattern_steps(behind_words, behind_ends))
        self.assertEqual(str(rule), "rule n v1 v2 a b | v2 own v1 | v1 own b | a own b > v1 own v1 by v1")

    def test_making(self):
        start = {"maker": "M!", "made": "D!", "down": ["own", "X1", "own"], "up": ["use", "X2", "use"]}
        making = self.refused_in_turn(Making, start, [
            ("NoName", ["M!"], {"maker": "lord"}),
            ("NoName", ["D!"], {"made": "box"}),
            ("NoName", ["X1"], {"down": ["own", "use", "own", "use"]}),
            ("NoName", ["X2"], {"up": ["use", "use"]}),
            ("Twice", ["own"], {"down": ["own", "use", "use"]}),
            ("Twice", ["use"], {"down": ["own", "use"]}),
            ("Twice", ["use"], {"up": ["own", "know", "know", "own"]}),
            ("Twice", ["know"], {"up": ["own", "know", "own"]}),
            ("Twice", ["own"], {"up": ["own", "know"]}),
        ])
        self.assertEqual(str(making), "making lord box > own use < own know")

    def test_a_sort_that_is_empty_is_no_none(self):
        self.refused("NoName", [""], Bar, "b", [("a", "")], [("a", "own", "a")])

    def test_the_ends_of_a_condition_and_by_are_no_places_for_names(self):
        self.refused("NoVariable", ["A!"], Bar, "b", variables_of("a"), [("A!", "own", "a")])
        self.refused("NoVariable", ["A!"], Bar, "b", variables_of("a"), [("a", "own", "A!")])
        loop = ("a", "own", "a")
        self.refused("NoVariable", ["A!"], Rule, "b", variables_of("a"), [loop], ("A!", "own", "a"), "a")
        self.refused("NoVariable", ["A!"], Rule, "b", variables_of("a"), [loop], ("a", "own", "A!"), "a")
        self.refused("NoVariable", [""], Rule, "b", variables_of("a"), [loop], loop, "")

    def test_a_sort_is_no_variable_and_the_name_of_the_rule_neither(self):
        self.refused("NoVariable", ["box"], Bar, "b", [("a", "box")], [("a", "own", "box")])
        loop = ("a", "own", "a")
        self.refused("NoVariable", ["r"], Rule, "r", variables_of("a"), [loop], loop, "r")

    def test_twice_with_unlike_sorts(self):
        self.refused("Twice", ["a"], Bar, "b", [("a", "box"), ("b", None), ("a", None)], [("a", "own", "b")])


class LooseAndApart(RefusalCase):
    def test_the_example_of_the_document(self):
        row = [("a", "own", "b"), ("c", "own", "d"), ("b", "own", "c")]
        four = variables_of("a", "b", "c", "d")
        self.refused("Apart", [1], Bar, "x", four, row)
        self.refused("Apart", [1], Rule, "x", four, row, ("a", "own", "d"), "a")
        mended = [row[0], row[2], row[1]]
        self.assertEqual(Bar("x", four, mended).conditions, tuple(mended))
        self.assertEqual(Rule("x", four, mended, ("a", "own", "d"), "a").conditions, tuple(mended))

    def test_the_last_condition_apart(self):
        row = [("a", "own", "b"), ("b", "own", "a"), ("c", "own", "d")]
        self.refused("Apart", [2], Bar, "x", variables_of("a", "b", "c", "d"), row)

    def test_either_end_ties_to_any_condition_ahead(self):
        three = variables_of("a", "b", "c")
        for last in [("a", "use", "c"), ("c", "use", "a"), ("b", "use", "c"), ("c", "use", "b")]:
            with self.subTest(last=last):
                Bar("x", three, [("a", "own", "b"), last])
                Bar("x", three, [("a", "own", "b"), ("a", "own", "a"), last])
        Bar("x", three, [("a", "own", "a"), ("b", "own", "a"), ("c", "own", "a")])

    def test_loops_apart(self):
        self.refused("Apart", [1], Bar, "x", variables_of("a", "b"), [("a", "own", "a"), ("b", "own", "b")])

    def test_one_word_does_not_tie(self):
        row = [("a", "b", "a"), ("b", "a", "b")]
        self.refused("Apart", [1], Bar, "x", variables_of("a", "b"), row)

    def test_loose_at_each_place(self):
        names = ["a", "b", "c"]
        for loose in names:
            tied = [name for name in names if name != loose]
            with self.subTest(loose=loose):
                self.refused("Loose", [loose], Bar, "x", variables_of(*names), [(tied[0], "own", tied[1])])

    def test_what_is_given_and_by_tie_nothing(self):
        loop = [("a", "own", "a")]
        self.refused("Loose", ["b"], Rule, "x", variables_of("a", "b"), loop, ("b", "use", "b"), "b")

    def test_a_word_or_a_sort_of_that_name_ties_nothing(self):
        self.refused("Loose", ["own"], Bar, "x", variables_of("a", "own"), [("a", "own", "a")])
        self.refused("Loose", ["box"], Bar, "x", [("a", "box"), ("box", None)], [("a", "own", "a")])


class Alike(RefusalCase):
    def unlike(self, one, other):
        self.assertFalse(one == other)
        self.assertFalse(other == one)
        self.assertTrue(one != other)
        self.assertTrue(other != one)

    def alike(self, one, other):
        self.assertTrue(one == other)
        self.assertFalse(one != other)

    def one_part_changed(self, kind, parts, changes):
        self.alike(kind(**parts), kind(**parts))
        for part, worth in changes:
            with self.subTest(kind=kind.__name__, part=part, worth=worth):
                self.unlike(kind(**parts), kind(**dict(parts, **{part: worth})))
                self.alike(kind(**dict(parts, **{part: worth})), kind(**dict(parts, **{part: worth})))

    PARTS = {
        "name": "n",
        "variables": [("a", "lord"), ("b", None)],
        "conditions": [("a", "own", "b"), ("b", "use", "a")],
    }
    CHANGES = [
        ("name", "m"),
        ("variables", [("a", "box"), ("b", None)]),
        ("variables", [("a", None), ("b", None)]),
        ("variables", [("a", "lord"), ("b", "lord")]),
        ("variables", [("b", None), ("a", "lord")]),
        ("conditions", [("b", "own", "b"), ("b", "use", "a")]),
        ("conditions", [("a", "know", "b"), ("b", "use", "a")]),
        ("conditions", [("a", "own", "a"), ("b", "use", "a")]),
        ("conditions", [("a", "own", "b"), ("a", "use", "a")]),
        ("conditions", [("a", "own", "b"), ("b", "own", "a")]),
        ("conditions", [("a", "own", "b"), ("b", "use", "b")]),
        ("conditions", [("b", "use", "a"), ("a", "own", "b")]),
        ("conditions", [("a", "own", "b")]),
        ("conditions", [("a", "own", "b"), ("b", "use", "a"), ("b", "use", "a")]),
    ]

    def test_bars(self):
        self.one_part_changed(Bar, self.PARTS, self.CHANGES)

    def test_rules(self):
        self.one_part_changed(Rule, dict(self.PARTS, gives=("a", "use", "b"), by="a"), [
            *self.CHANGES,
            ("gives", ("b", "use", "b")),
            ("gives", ("a", "own", "b")),
            ("gives", ("a", "use", "a")),
            ("by", "b"),
        ])

    def test_one_variable_more_or_another_name_of_it(self):
        one = Bar("n", variables_of("a", "b"), [("a", "own", "b")])
        self.unlike(one, Bar("n", variables_of("a", "c"), [("a", "own", "c")]))
        self.unlike(one, Bar("n", variables_of("a"), [("a", "own", "a")]))
        self.unlike(one, Bar("n", variables_of("a", "b", "c"), [("a", "own", "b"), ("b", "own", "c")]))

    def test_makings(self):
        self.one_part_changed(Making, {"maker": "lord", "made": "box", "down": ["own", "use"], "up": ["know"]}, [
            ("maker", "king"),
            ("made", "bag"),
            ("down", ["use", "own"]),
            ("down", ["own"]),
            ("down", ["own", "use", "know"]),
            ("down", ["own", "know"]),
            ("down", []),
            ("up", []),
            ("up", ["own"]),
            ("up", ["know", "own"]),
        ])
        self.unlike(Making("lord", "box", [], ["own", "use"]), Making("lord", "box", [], ["use", "own"]))
        self.unlike(Making("lord", "box", ["own"], []), Making("lord", "box", [], ["own"]))
        self.unlike(Making("lord", "box", [], []), Making("box", "lord", [], []))

    def test_a_rule_is_never_a_bar(self):
        rule = Rule(**self.PARTS, gives=("a", "use", "b"), by="a")
        bar = Bar(**self.PARTS)
        self.unlike(rule, bar)

    def test_things_of_other_kinds(self):
        for part in (lend(), both(), box_making()):
            for other in (None, 5, "lend", str(part), (), [], part.__dict__):
                self.unlike(part, other)
        self.unlike(lend(), box_making())
        self.unlike(both(), box_making())

    def test_lists_of_them_are_compared_part_by_part(self):
        self.assertEqual([lend(), both(), box_making()], [lend(), both(), box_making()])
        self.assertIn(lend(), [both(), lend()])
        self.assertNotIn(lend(), [both(), box_making()])


class Rows(RefusalCase):
    def test_the_examples_of_the_document(self):
        self.assertEqual(str(lend()), "rule lend a:lord b c:box | a own c | a know b > b use c by a")
        self.assertEqual(str(both()), "bar both a b | a own b | a use b")
        self.assertEqual(str(box_making()), "making lord box > own use <")

    def test_makings(self):
        self.assertEqual(str(Making("lord", "box", [], [])), "making lord box > <")
        self.assertEqual(str(Making("lord", "box", [], ["use"])), "making lord box > < use")
        self.assertEqual(str(Making("lord", "box", [], ["use", "own"])), "making lord box > < use own")
        self.assertEqual(str(Making("lord", "box", ["own"], [])), "making lord box > own <")
        self.assertEqual(str(Making("lord", "box", ["use", "own"], ["own"])), "making lord box > use own < own")

    def test_variables_with_and_without_a_sort(self):
        loop = [("a", "own", "a")]
        self.assertEqual(str(Bar("b", [("a", None)], loop)), "bar b a | a own a")
        self.assertEqual(str(Bar("b", [("a", "box")], loop)), "bar b a:box | a own a")
        self.assertEqual(str(Rule("r", [("a", None)], loop, ("a", "use", "a"), "a")), "rule r a | a own a > a use a by a")
        rule = Rule("r", [("a", "box")], loop, ("a", "use", "a"), "a")
        self.assertEqual(str(rule), "rule r a:box | a own a > a use a by a")

    def test_four_variables_and_three_conditions(self):
        row = [("a", "own", "b"), ("c", "use", "b"), ("d", "own", "c")]
        bar = Bar("b", [("d", "bag"), ("c", None), ("b", "box"), ("a", None)], row)
        self.assertEqual(str(bar), "bar b d:bag c b:box a | a own b | c use b | d own c")

    def test_no_part_is_empty(self):
        for part in (lend(), both(), Making("lord", "box", [], []), Making("lord", "box", ["own"], [])):
            self.assertNotIn("", str(part).split(" "))


if __name__ == "__main__":
    unittest.main()
