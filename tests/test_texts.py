"""Rows of text (points 46 to 49)."""

import random
import unittest

from tests.helper import (
    RefusalCase, WORDS, bar_of, both, box_making, house_by_lot, house_of, lend, made_scheme, played_by_lot, rule_of,
    scheme_by_lot, shown, small_house, small_scheme, told_lists,
)
from whomay.deeds import play
from whomay.houses import House
from whomay.patterns import Bar, Making, Rule
from whomay.schemes import Scheme
from whomay.texts import deed_row, house_rows, read_deed, read_house, read_part, read_scheme, scheme_rows

LEND = "rule lend a:lord b c:box | a own c | a know b > b use c by a"
BOTH = "bar both a b | a own b | a use b"
MAKING = "making lord box > own use <"

# Rows that are not of the form of a rule, a bar or a making.
NO_PARTS = [
    "", " ", "  ", "rule", "bar", "making", "rules x", "Rule r a | a own a > a own a by a", "sorts a b", "words a b",
    "lend",
    # A rule without what it gives, with a part too few, too many, another word for by, or blanks too many.
    "rule r", "rule r a b", "rule r a | a own a", "rule r a | a own a >", "rule r a | a own a > a own",
    "rule r a | a own a > a own a", "rule r a | a own a > a own a by", "rule r a | a own a > a own a a",
    "rule r a | a own a > a own a by a a", "rule r a | a own a > a own a By a", "rule r a | a own a > a own a > a",
    "rule r a | a own > a own a by a", "rule r a | a own a a > a own a by a", "rule r a | > a own a by a",
    "rule r a a own a > a own a by a b", "rule r a > a own a by a | a own a", "rule r a | a own a > a own a by a |",
    "rule r a | a own a | a own > a own a by a", "rule r a > a own a by", "rule r a | a own a < a own a by a",
    "rule  r a | a own a > a own a by a", " rule r a | a own a > a own a by a", "rule r a | a own a > a own a by a ",
    "rule r a |  a own a > a own a by a", "rule r a | a own a > a  own a by a", "rule r a | a own a > by a", "rule >",
    "rule r |", "rule r >", "rule r a | a own a by a", "rule r a > | a own a by a b",
    "rule r a | a own a >> a own a by a",
    # A bar with a part too few or too many, or with what it would give.
    "bar b a |", "bar b a | a", "bar b a | a own", "bar b a | a own a a", "bar b a | a own a | a own",
    "bar b a | a own a |",
    "bar b a | a own a > a own a by a", "bar b a >", "bar b a > a own a", "bar b a | a own a >", "bar  b a | a own a",
    "bar b a | a own a ", " bar b a | a own a", "bar b a | a own  a", "bar b >", "bar b a | a own a by a",
    # A making without > or <, with > at another place, or with blanks too many.
    "making lord", "making lord box", "making lord box >", "making lord box > own", "making lord box <",
    "making lord box < >",
    "making lord box own > <", "making lord > own <", "making > own <", "making lord box own <",
    "making lord box > own >",
    "making  lord box > own <", "making lord box >  <", "making lord box > < ", " making lord box > <",
    "making lord box >own <",
    "making lord box > own<", "making lord box bag > <",
]

# Rows of the right form, and with what they are refused or what they are.
ODD_PARTS = [
    ("rule r > a own a by a", "BadCount", ["variables", 0]), ("bar b", "BadCount", ["variables", 0]),
    ("rule r a > a own a by a", "BadCount", ["conditions", 0]), ("bar b a", "BadCount", ["conditions", 0]),
    ("bar b a b c d e | a own a", "BadCount", ["variables", 5]),
    ("rule r a b c d e > a own a by a", "BadCount", ["variables", 5]),
    ("bar b a | a own a | a own a | a own a | a own a", "BadCount", ["conditions", 4]),
    ("rule | a | a own a > a own a by a", "NoName", ["|"]), ("rule > > > > > by >", "BadCount", ["variables", 0]),
    ("bar | a | a own a", "NoName", ["|"]), ("bar > a | a own a", "NoName", [">"]),
    ("bar b a | | | |", "NoName", ["|"]), ("bar b a | > > >", "NoName", [">"]), ("bar b a | a > a", "NoName", [">"]),
    ("rule r a | a own a > | > | by a", "NoName", [">"]), ("rule r a | a | a > a own a by a", "NoName", ["|"]),
    ("rule r a | a own a > a own a by by", "NoVariable", ["by"]),
    ("rule r a | a own a > > own a by a", "NoVariable", [">"]),
    ("bar b a:lord:box | a own a", "NoName", ["lord:box"]), ("bar b :lord | a own a", "NoName", [""]),
    ("bar b a: | a own a", "NoName", [""]), ("bar b : | a own a", "NoName", [""]),
    ("bar b :: | a own a", "NoName", [""]),
    ("bar b a:: | a own a", "NoName", [":"]), ("bar b a:lord: | a own a", "NoName", ["lord:"]),
    ("bar b a:lord | a:lord own a", "NoVariable", ["a:lord"]), ("bar b < | a own a", "NoName", ["<"]),
    ("bar abcdefghijklm a | a own a", "NoName", ["abcdefghijklm"]),
    ("bar b abcdefghijklm | a own a", "NoName", ["abcdefghijklm"]),
    ("rule r a | a abcdefghijklm a > a own a by a", "NoName", ["abcdefghijklm"]),
    ("bar b a a | a own a", "Twice", ["a"]),
    ("bar b a c | a own a", "Loose", ["c"]), ("bar b a c | a own a | c own c", "Apart", [1]),
    ("making > < > <", "NoName", [">"]), ("making lord box > > <", "NoName", [">"]),
    ("making lord box > < <", "NoName", ["<"]),
    ("making lord box > own own <", "Twice", ["own"]), ("making lord box > < own own", "Twice", ["own"]),
    ("making Lord box > own own <", "NoName", ["Lord"]), ("making lord box > own < use | own", "NoName", ["|"]),
    ("making lord abcdefghijklm > <", "NoName", ["abcdefghijklm"]), ("making lord box > < Use", "NoName", ["Use"]),
]

GOOD_PARTS = [
    (LEND, lend()), (BOTH, both()), (MAKING, box_making()),
    ("making lord box > <", Making("lord", "box", [], [])),
    ("making lord box > < own use", Making("lord", "box", [], ["own", "use"])),
    ("making a b > own < use own", Making("a", "b", ["own"], ["use", "own"])),
    ("making making bar > < rule", Making("making", "bar", [], ["rule"])),
    ("rule by by:by | by by by > by by by by by", Rule("by", [("by", "by")], [("by", "by", "by")], ("by", "by", "by"), "by")),
    ("rule rule bar sorts:words | bar rule sorts > sorts bar bar by bar",
     Rule("rule", [("bar", None), ("sorts", "words")], [("bar", "rule", "sorts")], ("sorts", "bar", "bar"), "bar")),
    ("bar bar rule:bar | rule bar rule", Bar("bar", [("rule", "bar")], [("rule", "bar", "rule")])),
    ("bar b a c:box d e:x1 | a own c | c own d | d own e",
     Bar("b", [("a", None), ("c", "box"), ("d", None), ("e", "x1")], [("a", "own", "c"), ("c", "own", "d"), ("d", "own", "e")])),
    ("bar abcdefghijkl a | a own a", Bar("abcdefghijkl", [("a", None)], [("a", "own", "a")])),
]


class Parts(RefusalCase):
    def test_written_and_read(self):
        for row, part in GOOD_PARTS:
            with self.subTest(row=row):
                self.assertEqual(str(part), row)
                self.assertEqual(read_part(row), part)
                self.assertIs(type(read_part(row=row)), type(part))
                self.assertEqual(str(read_part(row)), row)

    def test_rows_that_are_none(self):
        for row in NO_PARTS:
            with self.subTest(row=row):
                self.refused("BadRow", [0], read_part, row)

    def test_rows_of_the_form_that_are_refused(self):
        for row, kind, fields in ODD_PARTS:
            with self.subTest(row=row):
                self.refused(kind, fields, read_part, row)

    def test_by_lot(self):
        for seed in range(100):
            scheme = scheme_by_lot(random.Random(seed))
            for part in scheme.makings() + scheme.rules():
                self.assertEqual(read_part(str(part)), part)


class SchemeRows(RefusalCase):
    HEAD = ["sorts lord box", "words own use know"]

    def test_written(self):
        scheme = small_scheme()
        rows = ["sorts lord box bag", "words own use know", MAKING, LEND, BOTH]
        self.assertEqual(scheme_rows(scheme), rows)
        self.assertEqual(scheme_rows(scheme=scheme), rows)
        self.assertEqual(scheme_rows(Scheme(["s"], ["w"])), ["sorts s", "words w"])
        scheme_rows(scheme).clear()
        self.assertEqual(scheme_rows(scheme), rows)

    def test_written_in_the_order_of_kinds(self):
        makings = [Making("box", "bag", [], []), Making("lord", "box", [], ["own"])]
        rules = [rule_of("z", "a", "a own a", "a own a", "a"), rule_of("a", "b", "b own b", "b own b", "b")]
        bars = [bar_of("z", "a", "a own a"), bar_of("a", "a", "a own a")]
        rows = scheme_rows(Scheme(["lord", "box", "bag"], ["own"], makings, rules, bars))
        self.assertEqual(rows, [
            "sorts lord box bag", "words own", "making box bag > <", "making lord box > < own",
            "rule z a | a own a > a own a by a", "rule a b | b own b > b own b by b", "bar z a | a own a",
            "bar a a | a own a",
        ])

    def test_read_again(self):
        for seed in range(80):
            lot = random.Random(seed)
            scheme = scheme_by_lot(lot)
            for number in range(lot.randint(0, 4)):
                scheme = scheme.with_bar(bar_of("b" + str(number), "a b:lord", "a own b, b use a"))
            rows = scheme_rows(scheme)
            self.assertEqual(told_lists(read_scheme(rows)), told_lists(scheme))
            self.assertEqual(scheme_rows(read_scheme(rows=rows)), rows)
            self.assertEqual(rows, scheme_rows(scheme))
            # Mixed by lot, each kind keeping its order.
            kinds = [row.split()[0] for row in rows[2:]]
            lot.shuffle(kinds)
            left = {kind: [row for row in rows[2:] if row.split()[0] == kind] for kind in kinds}
            mixed = rows[:2] + [left[kind].pop(0) for kind in kinds]
            self.assertEqual(told_lists(read_scheme(mixed)), told_lists(scheme))

    def test_names_such_as_the_words_of_rows(self):
        rows = [
            "sorts sorts words rule bar", "words by rule bar making", "making sorts words > by < rule",
            "rule by by | by by by > by by by by by", "bar bar bar | bar by bar",
        ]
        self.assertEqual(scheme_rows(read_scheme(rows)), rows)

    def test_rows_that_lack(self):
        self.refused("BadRow", [0], read_scheme, [])
        self.refused("BadRow", [1], read_scheme, ["sorts lord"])
        self.refused("BadRow", [0], read_scheme, ["words own"])
        self.refused("BadRow", [0], read_scheme, ["words own", "sorts lord"])
        self.refused("BadRow", [1], read_scheme, ["sorts lord", "sorts lord"])
        self.refused("BadRow", [1], read_scheme, ["sorts lord", LEND, "words own"])
        self.refused("BadRow", [2], read_scheme, ["sorts lord", "words own", "words own"])
        self.refused("BadRow", [2], read_scheme, ["sorts lord", "words own", "sorts lord"])

    def test_the_first_two_rows(self):
        for row in ["", " ", "sort lord", "Sorts lord", " sorts lord", "sorts  lord", "sorts lord ", "lord sorts", "sortslord", BOTH]:
            self.refused("BadRow", [0], read_scheme, [row, "words own"])
            self.refused("BadRow", [0], read_scheme, [row])
            self.refused("BadRow", [1], read_scheme, ["sorts lord", row.replace("ort", "ord")])
        self.refused("BadCount", ["sorts", 0], read_scheme, ["sorts", "words"])
        self.refused("BadCount", ["words", 0], read_scheme, ["sorts lord", "words"])
        self.refused("BadCount", ["sorts", 5], read_scheme, ["sorts a b c d e", "words own"])
        self.refused("NoName", ["|"], read_scheme, ["sorts lord |", "words own"])
        self.refused("NoName", ["sorts:x"], read_scheme, ["sorts sorts:x", "words own"])
        self.refused("NoName", ["abcdefghijklm"], read_scheme, ["sorts lord", "words abcdefghijklm"])
        self.assertEqual(read_scheme(["sorts sorts", "words words"]).sorts(), ["sorts"])

    def test_the_first_row_that_is_none(self):
        for row in NO_PARTS:
            with self.subTest(row=row):
                self.refused("BadRow", [2], read_scheme, [*self.HEAD, row])
                self.refused("BadRow", [4], read_scheme, [*self.HEAD, LEND, BOTH, row, MAKING, row])

    def test_forms_ahead_of_all_other_refusals(self):
        for odd, kind, fields in ODD_PARTS:
            with self.subTest(row=odd):
                self.refused("BadRow", [4], read_scheme, [*self.HEAD, odd, BOTH, "rule r", "bar"])
                self.refused("BadRow", [3], read_scheme, ["sorts", "words", odd, "jump"])
                self.refused("BadRow", [1], read_scheme, ["sorts lord", "word own", odd])
                # And these ahead of those of the scheme, row by row.
                self.refused(kind, fields, read_scheme, ["sorts", "words Own", BOTH, BOTH, odd, "bar b", MAKING])
        self.refused("NoName", ["R"], read_scheme, [*self.HEAD, "bar R a | a own a", "making Lord box > <", "rule Q > a own a by a"])
        self.refused("NoName", ["Lord"], read_scheme, [*self.HEAD, "making Lord box > <", "bar R a | a own a"])

    def test_then_the_refusals_of_a_scheme(self):
        same = "bar again a b | a own b"
        start = [["sorts"], ["words own"], [LEND], [same], [same], ["making box lord > own <"]]
        steps = [
            ("BadCount", ["sorts", 0], 0, ["sorts lord box"]), ("Twice", ["again"], 4, []),
            ("Upward", ["box", "lord"], 5, [MAKING]), ("NoWord", ["use"], 1, ["words own use know"]),
        ]
        for kind, fields, place, mended in steps:
            rows = [row for part in start for row in part]
            with self.subTest(kind=kind):
                self.refused(kind, fields, read_scheme, rows)
            start[place] = mended
        rows = [row for part in start for row in part]
        self.assertEqual(scheme_rows(read_scheme(rows)), rows[:2] + [MAKING, LEND, same])
        self.refused("NoSort", ["box"], read_scheme, ["sorts lord", *rows[1:]])
        self.refused("BadCount", ["bars", 5], read_scheme, rows + [same] * 4)
        self.refused("BadCount", ["rules", 9], read_scheme, rows + [LEND] * 8)

    def test_a_list_that_is_handed_in_stays(self):
        rows = scheme_rows(small_scheme())
        kept = list(rows)
        scheme = read_scheme(rows)
        self.assertEqual(rows, kept)
        rows.clear()
        self.assertEqual(scheme_rows(scheme), kept)


class HouseRows(RefusalCase):
    ROWS = [
        "thing bob lord asleep", "thing ann lord awake", "thing crate box awake", "thing bag1 bag awake",
        "holds ann know bob", "holds ann use ann", "holds bob own crate",
    ]

    def test_written(self):
        house = small_house()
        before = shown(house)
        self.assertEqual(house_rows(house), self.ROWS)
        house_rows(house=house).clear()
        self.assertEqual((house_rows(house), shown(house)), (self.ROWS, before))
        self.assertEqual(house_rows(House(small_scheme())), [])

    def test_read_again(self):
        for seed in range(80):
            lot = random.Random(seed)
            house = house_by_lot(lot, scheme_by_lot(lot))
            rows = house_rows(house)
            again = read_house(house.scheme(), rows)
            self.assertIs(type(again), House)
            self.assertEqual(shown(again), shown(house))
            self.assertIs(again.scheme(), house.scheme())
            self.assertEqual(house_rows(again), rows)
            self.assertEqual(shown(read_house(rows=rows, scheme=house.scheme())), shown(house))

    def test_rows_in_any_order(self):
        rows = self.ROWS[:3] + [self.ROWS[6], self.ROWS[4], self.ROWS[6]] + self.ROWS[3:4] + self.ROWS[5:6]
        self.assertEqual(shown(read_house(small_scheme(), rows)), shown(small_house()))
        self.assertEqual(shown(read_house(small_scheme(), [])), ([], [], 0))

    def test_rows_that_are_none(self):
        for row in [
            "", " ", "thing", "holds", "thing ann", "thing ann lord", "thing ann lord sleeping", "thing ann lord Awake",
            "thing ann lord awake awake", "thing ann lord awake asleep", "thing ann awake", "thing  ann lord awake",
            " thing ann lord awake", "thing ann lord awake ", "thing ann  lord awake", "Thing ann lord awake",
            "holds ann own", "holds ann own ann ann", "holds ann  own ann", "holds ann own ann ", " holds ann own ann",
            "hold ann own ann", "enter ann lord", "ann own ann", "give ann own ann", "things ann lord awake",
            "thing awake",
        ]:
            with self.subTest(row=row):
                self.refused("BadRow", [0], read_house, small_scheme(), [row])
                self.refused("BadRow", [2], read_house, small_scheme(), [*self.ROWS[:2], row, self.ROWS[3], row])
                # Ahead of all that house would refuse.
                self.refused("BadRow", [2], read_house, small_scheme(), ["thing Ann king awake", "holds eve eat zed", row])

    def test_then_row_by_row_as_the_house_refuses(self):
        for rows, kind, fields in [
            (["thing Ann king awake"], "NoName", ["Ann"]), (["thing ann king asleep"], "NoSort", ["king"]),
            (["thing abcdefghijklm lord awake"], "NoName", ["abcdefghijklm"]),
            (["thing ann lord awake", "thing ann king asleep"], "Taken", ["ann"]),
            (["holds ann own ann", "thing ann lord awake"], "NoThing", ["ann"]),
            (["thing ann lord awake", "holds ann own bob", "thing bob lord awake"], "NoThing", ["bob"]),
            (["thing ann lord awake", "holds bob own eve"], "NoThing", ["bob"]),
            (["thing ann lord awake", "holds ann eat ann"], "NoWord", ["eat"]),
            (["thing ann lord awake", "holds ann eat ann", "thing Bob lord awake"], "NoWord", ["eat"]),
            (["thing ann lord awake", "thing Bob lord awake", "holds ann eat ann"], "NoName", ["Bob"]),
            (["thing ann lord awake", "holds | > <"], "NoThing", ["|"]),
        ]:
            self.refused(kind, fields, read_house, small_scheme(), rows)
        many = ["thing t" + str(number) + " lord awake" for number in range(61)]
        self.assertEqual(len(read_house(small_scheme(), many[:60])), 60)
        self.refused("Full", [], read_house, small_scheme(), many)

    def test_names_such_as_the_words_of_rows(self):
        scheme = Scheme(["thing", "holds"], ["thing", "awake"])
        rows = ["thing thing thing asleep", "thing holds holds awake", "thing awake thing awake", "holds awake awake thing", "holds holds thing awake"]
        self.assertEqual(house_rows(read_house(scheme, rows)), rows)

    def test_the_scheme_and_the_rows_stay(self):
        scheme, rows = small_scheme(), list(self.ROWS)
        before = told_lists(scheme)
        house = read_house(scheme, rows)
        self.assertEqual((told_lists(scheme), rows), (before, self.ROWS))
        rows.clear()
        self.assertEqual(house_rows(house), self.ROWS)


class DeedRows(RefusalCase):
    DEEDS = [
        (("make", "ann", "box", "m1"), "make ann box m1"),
        (("do", "lend", ("ann", "bob", "crate")), "do lend ann bob crate"),
        (("do", "lend", ("ann",)), "do lend ann"), (("do", "lend", ()), "do lend"),
        (("drop", "ann", "own", "m1"), "drop ann own m1"),
        (("make", "make", "do", "drop"), "make make do drop"), (("do", "do", ("do", "do")), "do do do do"),
    ]

    def test_written_and_read(self):
        for deed, row in self.DEEDS:
            self.assertEqual(deed_row(deed), row)
            self.assertEqual(deed_row(deed=deed), row)
            self.assertEqual(read_deed(row), deed)
            self.assertEqual(read_deed(row=row), deed)
            self.assertIs(type(read_deed(row)), tuple)
        self.assertIs(type(read_deed("do lend ann")[2]), tuple)

    def test_no_deed(self):
        for word in ["jump", "", "Make", "dop", "held"]:
            self.refused("NoDeed", [word], deed_row, (word,))
            self.refused("NoDeed", [word], deed_row, (word, "a", "b", "c"))

    def test_rows_that_are_none(self):
        for row in [
            "", " ", "make", "make ann", "make ann box", "make ann box m1 m2", "do", "do ", "do  lend", " do lend",
            "do lend ",
            "do lend  ann", "drop", "drop ann", "drop ann own", "drop ann own m1 m2", "drop ann  own m1", "jump",
            "jump a b c",
            "Make ann box m1", "play make ann box m1", "makes ann box m1", "make  ann box", "rule do a",
        ]:
            with self.subTest(row=row):
                self.refused("BadRow", [0], read_deed, row)

    def test_parts_that_are_no_names(self):
        self.assertEqual(read_deed("make Ann | abcdefghijklm"), ("make", "Ann", "|", "abcdefghijklm"))
        self.assertEqual(read_deed("do > < : do"), ("do", ">", ("<", ":", "do")))
        self.assertEqual(read_deed("drop 1 2 3"), ("drop", "1", "2", "3"))

    def test_deeds_by_lot(self):
        for seed in range(40):
            lot = random.Random(seed)
            house = house_by_lot(lot, scheme_by_lot(lot))
            for deed in played_by_lot(lot, house, play):
                self.assertEqual(read_deed(deed_row(deed)), deed)


class Together(RefusalCase):
    def test_a_scheme_and_a_house_by_text_alone(self):
        scheme = read_scheme(scheme_rows(made_scheme()))
        house = house_of(scheme, "ann:lord -bob:lord", "ann know bob")
        self.assertEqual(house_rows(read_house(scheme, house_rows(house))), [
            "thing ann lord awake", "thing bob lord asleep", "holds ann know bob",
        ])
        self.assertEqual(WORDS, scheme.words())


if __name__ == "__main__":
    unittest.main()
