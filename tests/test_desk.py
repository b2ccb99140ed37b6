"""The desk (point 50)."""

import random
import unittest

from tests.helper import RefusalCase, all_triples, bar_of, house_by_lot, scheme_by_lot
from whomay.deeds import after
from whomay.desk import Desk
from whomay.errors import WhoError
from whomay.finish import Finish
from whomay.keeper import Keeper
from whomay.least import cure, guards, helpers
from whomay.matching import matches
from whomay.patterns import Making
from whomay.texts import deed_row, house_rows, read_deed, read_house, read_part, read_scheme, scheme_rows
from whomay.ways import how, may, stones, who

SCHEME = [
    "sorts lord box bag", "words own use know", "making lord box > own <",
    "rule lend a:lord b c:box | a own c | a know b > b use c by a", "bar both a b | a own b | a use b",
]

HOUSE = [
    "enter ann lord", "enter bob lord asleep", "enter crate box", "give ann own crate", "give ann know bob",
    "give bob know bob",
]

QUESTIONS = ["may", "helpers", "guards", "stones", "cure", "how"]


def desk_with(rows, scheme=SCHEME):
    desk = Desk(scheme)
    for row in rows:
        if desk.tell(row) != ["done"]:
            raise AssertionError(row)
    return desk


def plain_answer(call, shown):
    """What the desk answers with, by what the function tells."""
    try:
        return shown(call())
    except WhoError as refusal:
        return [refusal.told()]


def holdings(rows):
    return [" ".join(row) for row in rows]


def plain_answers(house):
    """Each question that can be asked of the house, with its answer."""
    names, words = house.things() + ["nobody"], house.scheme().words() + ["eat"]
    answers = {
        "house": house_rows(house), "scheme": scheme_rows(house.scheme()),
        "finished": plain_answer(lambda: Finish(house).end(), house_rows),
    }
    for x, word, y in all_triples(names, words):
        asked = " " + " ".join((x, word, y))
        answers["may" + asked] = plain_answer(lambda: may(house, x, word, y), lambda told: ["yes" if told else "no"])
        answers["helpers" + asked] = plain_answer(lambda: helpers(house, x, word, y), list)
        answers["guards" + asked] = plain_answer(lambda: guards(house, x, word, y), list)
        answers["stones" + asked] = plain_answer(lambda: stones(house, x, word, y), holdings)
        answers["cure" + asked] = plain_answer(lambda: cure(house, x, word, y), holdings)
        answers["how" + asked] = plain_answer(lambda: how(house, x, word, y), lambda way: [deed_row(deed) for deed in way])
        answers["who " + word + " " + y] = plain_answer(lambda: who(house, word, y), list)
    return answers


class Desks(RefusalCase):
    def rows(self, desk):
        return desk.tell("house") + desk.tell("scheme")

    def test_made_of_the_rows_of_a_scheme(self):
        rows = list(SCHEME)
        desk = Desk(rows=rows)
        self.assertEqual(rows, SCHEME)
        rows.clear()
        self.assertEqual((desk.tell("scheme"), desk.tell(row="house")), (SCHEME, []))
        mixed = SCHEME[:2] + SCHEME[:1:-1]
        self.assertEqual(Desk(mixed).tell("scheme"), SCHEME)

    def test_refused_as_read_scheme_refuses(self):
        self.refused("BadRow", [0], Desk, [])
        self.refused("BadRow", [1], Desk, SCHEME[:1])
        self.refused("BadRow", [3], Desk, SCHEME[:3] + ["jump"] + SCHEME[3:])
        self.refused("NoName", ["Both"], Desk, SCHEME + ["bar Both a | a own a"])
        self.refused("Twice", ["both"], Desk, SCHEME + SCHEME[-1:])
        self.refused("BadCount", ["sorts", 0], Desk, ["sorts"] + SCHEME[1:])

    def test_each_change(self):
        desk = Desk(SCHEME)
        keeper = Keeper(read_scheme(SCHEME))
        greet = "rule greet a b | a know b > b know a by b"
        for row, change in [
            ("enter ann lord", lambda: keeper.enter("ann", "lord")),
            ("enter bob lord asleep", lambda: keeper.enter("bob", "lord", False)),
            ("enter crate box", lambda: keeper.enter("crate", "box", True)),
            ("give ann own crate", lambda: keeper.give("ann", "own", "crate")),
            ("give ann know bob", lambda: keeper.give("ann", "know", "bob")),
            ("take ann own crate", lambda: keeper.take("ann", "own", "crate")),
            ("wake bob", lambda: keeper.wake("bob")), ("sleep ann", lambda: keeper.sleep("ann")),
            ("wake ann", lambda: keeper.wake("ann")),
            ("play make ann box m1", lambda: keeper.play(("make", "ann", "box", "m1"))),
            ("play do lend ann bob m1", lambda: keeper.play(("do", "lend", ("ann", "bob", "m1")))),
            ("play drop ann own m1", lambda: keeper.play(("drop", "ann", "own", "m1"))),
            ("add " + greet, lambda: keeper.add_rule(read_part(greet))),
            ("add bar odd x | x own x | x use x", lambda: keeper.add_bar(bar_of("odd", "x", "x own x, x use x"))),
            ("add making box bag > < know", lambda: keeper.add_making(Making("box", "bag", [], ["know"]))),
            ("drop rule greet", lambda: keeper.drop_rule("greet")), ("drop bar both", lambda: keeper.drop_bar("both")),
            ("drop making lord box", lambda: keeper.drop_making("lord", "box")), ("back", keeper.back),
            ("back", keeper.back),
        ]:
            with self.subTest(row=row):
                change()
                self.assertEqual(desk.tell(row), ["done"])
                self.assertEqual(desk.tell("house"), house_rows(keeper.house()))
                self.assertEqual(desk.tell("scheme"), scheme_rows(keeper.scheme()))
        for number in range(keeper.many()):
            keeper.back()
            self.assertEqual(desk.tell("back"), ["done"])
            self.assertEqual(desk.tell("house"), house_rows(keeper.house()))
        self.assertEqual(desk.tell("back"), ["refused noback"])

    def test_each_change_refused(self):
        desk = desk_with(HOUSE)
        before = self.rows(desk)
        for row, told in [
            ("enter Cat lord", "noname"), ("enter abcdefghijklm lord", "noname"), ("enter ann king", "taken"),
            ("enter cat king", "nosort"),
            ("enter cat king asleep", "nosort"), ("enter cat asleep", "nosort"), ("give eve own ann", "nothing"),
            ("give ann own eve", "nothing"),
            ("give ann eat ann", "noword"), ("take ann own ann", "notheld"), ("take ann own eve", "nothing"),
            ("take ann eat ann", "noword"),
            ("wake eve", "nothing"), ("sleep eve", "nothing"), ("sleep |", "nothing"),
            ("play make eve box m1", "nothing"),
            ("play make ann king m1", "nosort"), ("play make bob box m1", "asleep"),
            ("play make crate box m1", "nomaking"),
            ("play make ann box M1", "noname"), ("play make ann box ann", "taken"), ("play do steal", "norule"),
            ("play do lend ann bob eve", "nothing"), ("play do lend ann bob", "misfit"), ("play do lend", "misfit"),
            ("play do lend bob bob crate", "asleep"), ("play do lend ann ann crate", "notheld"),
            ("play drop bob know bob", "asleep"),
            ("play drop ann own bob", "notheld"), ("play drop ann eat bob", "noword"), ("add " + SCHEME[3], "twice"),
            ("add bar B a | a own a", "noname"), ("add bar b a c | a own a", "loose"),
            ("add bar b a b | a own a | b own b", "apart"),
            ("add bar b a a | a own a", "twice"), ("add bar b", "badcount"), ("add bar b a | a own b", "novariable"),
            ("add bar b a:king | a own a", "nosort"), ("add bar b a | a eat a", "noword"),
            ("add making box lord > <", "upward"),
            ("add making lord box > <", "twice"), ("add making box bag > eat <", "noword"),
            ("add making box bag > own own <", "twice"),
            ("drop rule both", "norule"), ("drop bar lend", "nobar"), ("drop making lord bag", "nomaking"),
            ("drop rule rule", "norule"),
        ]:
            with self.subTest(row=row):
                self.assertEqual(desk.tell(row), ["refused " + told])
                self.assertEqual(self.rows(desk), before)

    def test_crowded_and_full(self):
        desk = desk_with(["enter ann lord"] + ["play make ann box b" + str(number) for number in range(59)])
        for row in ["wake ann", "give ann own ann", "may ann own ann", "who own ann", "how ann own b0", "helpers ann own b0",
                    "guards ann own b0", "stones ann own b0", "cure ann own b0", "finished", "add making box bag > <"]:
            self.assertEqual(desk.tell(row), ["refused crowded"])
        self.assertEqual(desk.tell("play make ann box more"), ["refused full"])
        self.assertEqual(desk.tell("enter more box"), ["refused full"])
        self.assertEqual(len(desk.tell("house")), 60 + 59)

    def test_questions(self):
        desk = desk_with(HOUSE)
        for row, answer in [
            ("may bob use crate", ["yes"]), ("may crate use bob", ["no"]), ("who use crate", ["bob"]),
            ("who own crate", ["ann"]),
            ("who use ann", []), ("how bob use crate", ["do lend ann bob crate"]), ("how ann own crate", []),
            ("helpers bob use crate", ["ann"]), ("guards bob use crate", ["ann"]), ("stones bob use crate", []),
            ("cure bob use crate", ["ann own crate"]), ("helpers ann own crate", []),
            ("guards ann own crate", ["refused nocure"]),
            ("how crate use bob", ["refused never"]), ("may eve use bob", ["refused nothing"]),
            ("who eat bob", ["refused noword"]),
            ("finished", [
                "thing ann lord awake", "thing bob lord asleep", "thing crate box awake", "thing m1 box awake",
                "holds ann know bob", "holds ann own crate", "holds ann own m1", "holds bob know bob",
                "holds bob use crate",
                "holds bob use m1",
            ]),
        ]:
            with self.subTest(row=row):
                self.assertEqual(desk.tell(row), answer)
                self.assertEqual(desk.tell(row=row), answer)

    def test_stones_with_some(self):
        desk = desk_with(["enter ann lord", "enter bob lord", "enter cat lord", "give ann know bob", "give bob know cat"], [
            "sorts lord", "words know met far", "rule one a b | a know b > a met b by a",
            "rule two a b c | a met b | b met c > a far c by a",
        ])
        self.assertEqual(desk.tell("stones ann far cat"), ["ann met bob", "bob met cat"])
        self.assertEqual(desk.tell("how ann far cat"), ["do one ann bob", "do one bob cat", "do two ann bob cat"])
        self.assertEqual(desk.tell("cure ann far cat"), ["bob know cat"])

    def test_barred(self):
        desk = desk_with(HOUSE)
        before = self.rows(desk)
        # Awake, bob would make a box and lend it to himself.
        self.assertEqual(desk.tell("wake bob")[:1], ["refused barred"])
        self.assertEqual(desk.tell("give ann know ann")[:1], ["refused barred"])
        told = desk.tell("give bob own crate")
        self.assertEqual(told, ["refused barred", "bar both bob crate", "do lend ann bob crate"])
        self.assertEqual(self.rows(desk), before)
        # A bar that stands at once has no deeds.
        self.assertEqual(desk.tell("add bar now x:box y | y own x"), ["refused barred", "bar now crate ann"])
        rows = desk.tell("add bar soon x:lord y:box | x use y | x know x")
        self.assertEqual((rows[0], rows[1].split()[:3]), ("refused barred", ["bar", "soon", "bob"]))
        self.assertEqual(self.rows(desk), before)

    def test_barred_by_lot(self):
        met = 0
        for seed in range(60):
            lot = random.Random(seed)
            house = house_by_lot(lot, scheme_by_lot(lot))
            desk = desk_of(house)
            bar = "bar b x y | x {} y | y {} x".format(*lot.choices(house.scheme().words(), k=2))
            told = desk.tell("add " + bar)
            if told == ["done"]:
                continue
            met += 1
            self.assertEqual(told[0], "refused barred")
            word, name, *spots = told[1].split(" ")
            self.assertEqual((word, name), ("bar", "b"))
            end = after(house, [read_deed(row) for row in told[2:]])
            self.assertIn(tuple(spots), matches(end, read_part(bar)))
        self.assertGreater(met, 20)

    def test_rows_that_are_none(self):
        desk = desk_with(HOUSE)
        before = self.rows(desk)
        rows = [
            "", " ", "  ", "jump", "Enter cat lord", "enter", "enter cat", "enter cat lord awake",
            "enter cat lord Asleep",
            "enter cat lord asleep asleep", "enter cat lord False", " enter cat lord", "enter cat lord ",
            "enter  cat lord", "enter cat  lord",
            "give", "give ann own", "give ann own bob bob", "give ann  own bob", "take ann own",
            "take ann own crate crate", "take",
            "wake", "wake ann bob", "sleep", "sleep ann bob", "wake  ann", "play", "play ", "play jump",
            "play make ann box",
            "play make ann box m1 m2", "play do", "play drop ann own", "play play do lend",
            "play  do lend ann bob crate", "play give ann own bob",
            "play do lend  ann", "add", "add jump", "add rule", "add rule r a", "add rule r a | a own a",
            "add bar b a | a own", "add making box bag",
            "add making box bag > own", "add sorts lord", "add words own", "add  bar b a | a own a",
            "add bar b a | a own a > a own a by a",
            "add thing cat lord awake", "drop", "drop rule", "drop rule lend lend", "drop bar", "drop bar both both",
            "drop making",
            "drop making lord", "drop making lord box box", "drop lend", "drop thing ann", "drop ann own crate",
            "back back", "back 1", "backs",
            "may", "may bob use", "may bob use crate crate", "who", "who use", "who use crate crate",
            "who ann use crate", "helpers bob use",
            "guards bob use", "stones bob use", "cure bob use", "how bob use", "helpers bob use crate x",
            "guards bob use crate x",
            "stones bob use crate x", "cure bob use crate x", "how bob use crate x", "house ann", "scheme x",
            "finished x", "houses", "house ",
            " house", "fault", "thing cat lord awake", "holds ann own ann", "make ann box m1", "do lend ann bob crate",
            "rule r", "sorts lord",
            SCHEME[3], SCHEME[4], SCHEME[2], "leaner", "many",
        ]
        for row in rows:
            with self.subTest(row=row):
                self.assertEqual(desk.tell(row), ["refused badrow"])
        self.assertEqual(self.rows(desk), before)
        # None of them was a change that could be taken back.
        for number in HOUSE:
            self.assertEqual(desk.tell("back"), ["done"])
        self.assertEqual(desk.tell("back"), ["refused noback"])

    def test_words_of_the_desk_as_names(self):
        desk = desk_with([
            "enter enter enter asleep", "enter asleep asleep", "enter back enter", "enter rule asleep",
            "give enter drop back",
            "give back rule enter", "add rule rule by back:enter | by rule back > back drop by by by",
            "add bar bar bar | bar drop bar",
            "add making enter asleep > < rule", "play make back asleep house", "play do rule back enter",
            "play drop back rule enter", "drop rule rule",
            "drop bar bar", "drop making enter asleep", "wake enter", "sleep back", "take enter drop back",
        ], ["sorts enter asleep", "words drop rule"])
        self.assertEqual(desk.tell("house"), [
            "thing enter enter awake", "thing asleep asleep awake", "thing back enter asleep",
            "thing rule asleep awake",
            "thing house asleep awake", "holds house rule back",
        ])
        self.assertEqual(desk.tell("scheme"), ["sorts enter asleep", "words drop rule"])
        self.assertEqual(desk.tell("may house rule back"), ["yes"])

    def test_what_is_told_is_the_askers_own(self):
        desk = desk_with(HOUSE)
        for row in ["house", "scheme", "finished", "who use crate", "cure bob use crate", "back", "jump"]:
            told = desk.tell(row)
            self.assertIs(type(told), list)
            kept = list(told)
            told.append("spoiled")
            if row != "back":
                self.assertEqual(desk.tell(row), kept)

    def test_two_desks_of_one_scheme(self):
        one, other = Desk(SCHEME), Desk(SCHEME)
        one.tell("enter ann lord")
        self.assertEqual(other.tell("house"), [])
        self.assertEqual(other.tell("back"), ["refused noback"])


def desk_of(house):
    """A desk that was told the house."""
    desk = Desk(scheme_rows(house.scheme()))
    for name in house.things():
        desk.tell("enter " + name + " " + house.sort_of(name) + ("" if house.is_awake(name) else " asleep"))
    for holding in house.held():
        desk.tell("give " + " ".join(holding))
    return desk


class Answers(RefusalCase):
    def test_all_questions_by_lot(self):
        kinds = set()
        for seed in range(40):
            lot = random.Random(seed)
            house = house_by_lot(lot, scheme_by_lot(lot), 3)
            desk = desk_of(house)
            self.assertEqual(desk.tell("house"), house_rows(house))
            for row, answer in plain_answers(house).items():
                with self.subTest(seed=seed, row=row):
                    self.assertEqual(desk.tell(row), answer)
                if not answer or not answer[0].startswith("refused"):
                    kinds.add((row.split()[0], len(answer) > 0))
        for kind in QUESTIONS + ["who", "house", "scheme", "finished"]:
            self.assertIn((kind, True), kinds)

    def test_one_desk_told_to_another(self):
        for seed in range(25):
            lot = random.Random(seed)
            scheme = scheme_by_lot(lot).with_bar(bar_of("odd", "x", "x own x, x use x, x know x"))
            desk = Desk(scheme_rows(scheme))
            for number in range(25):
                desk.tell(change_by_lot(lot, desk, "n" + str(number)))
            again = Desk(desk.tell("scheme"))
            for row in desk.tell("house"):
                kind, first, second, third = row.split(" ")
                if kind == "thing":
                    told = again.tell("enter " + first + " " + second + (" asleep" if third == "asleep" else ""))
                else:
                    told = again.tell("give " + first + " " + second + " " + third)
                self.assertEqual(told, ["done"])
            house = read_house(read_scheme(desk.tell("scheme")), desk.tell("house"))
            with self.subTest(seed=seed):
                self.assertEqual(house_rows(house), again.tell("house"))
                for row in lot.sample(sorted(plain_answers(house)), 40) if len(house) > 1 else plain_answers(house):
                    self.assertEqual(again.tell(row), desk.tell(row))


def change_by_lot(lot, desk, name):
    """A row that changes something, or is refused."""
    names = [row.split()[1] for row in desk.tell("house") if row.startswith("thing")] or ["nobody"]
    x, y = lot.choice(names), lot.choice(names)
    word, sort = lot.choice(["own", "use", "know"]), lot.choice(["lord", "box", "bag"])
    rows = [
        "give " + x + " " + word + " " + y, "give " + y + " " + word + " " + x, "take " + x + " " + word + " " + y,
        "sleep " + x, "wake " + y,
        "play drop " + x + " " + word + " " + y, "drop rule r1", "back",
        "add rule " + name + " p q | p " + word + " q > q use p by p",
    ]
    if len(names) < 4:
        rows += ["enter " + name + " " + sort, "enter " + name + " " + sort + " asleep", "play make " + x + " " + sort + " " + name] * 2
    return lot.choice(rows)


if __name__ == "__main__":
    unittest.main()
