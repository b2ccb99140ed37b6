"""Point 3: what a name is, in each of the places where one is wanted."""

import unittest

from tests.helper import GOOD_NAMES, RefusalCase, bad_names, small_house, small_scheme
from whomay.houses import House
from whomay.patterns import Bar, Making, Rule
from whomay.schemes import Scheme

LOOP = [("v", "own", "v")]

# Each place where a name is wanted: what makes something with the text put in there.
NAME_PLACES = {
    "a bar's name": lambda text: Bar(text, [("v", None)], LOOP),
    "a bar's first variable": lambda text: Bar("b", [(text, None)], [(text, "own", text)]),
    "a bar's last variable": lambda text: Bar("b", [("v0v", None), (text, None)], [("v0v", "own", text)]),
    "a bar's first sort": lambda text: Bar("b", [("v", text)], LOOP),
    "a bar's last sort": lambda text: Bar("b", [("w", None), ("v", text)], [("v", "own", "w")]),
    "a bar's first word": lambda text: Bar("b", [("v", None)], [("v", text, "v"), ("v", "own", "v")]),
    "a bar's last word": lambda text: Bar("b", [("v", None)], [("v", "own", "v"), ("v", text, "v")]),
    "a rule's name": lambda text: Rule(text, [("v", None)], LOOP, ("v", "own", "v"), "v"),
    "a rule's variable": lambda text: Rule("r", [(text, None)], [(text, "own", text)], (text, "own", text), text),
    "a rule's sort": lambda text: Rule("r", [("v", text)], LOOP, ("v", "own", "v"), "v"),
    "a rule's word": lambda text: Rule("r", [("v", None)], [("v", text, "v")], ("v", "own", "v"), "v"),
    "what a rule gives": lambda text: Rule("r", [("v", None)], LOOP, ("v", text, "v"), "v"),
    "a maker": lambda text: Making(text, "box", [], []),
    "what is made": lambda text: Making("lord", text, [], []),
    "the first word of down": lambda text: Making("lord", "box", [text, "own"], []),
    "the last word of down": lambda text: Making("lord", "box", ["own", text], ["own"]),
    "the first word of up": lambda text: Making("lord", "box", [], [text, "own"]),
    "the last word of up": lambda text: Making("lord", "box", ["own"], ["own", text]),
    "the first sort": lambda text: Scheme([text, "king"], ["own"]),
    "the last sort": lambda text: Scheme(["king", text], ["own"]),
    "the first word": lambda text: Scheme(["king"], [text, "own"]),
    "the last word": lambda text: Scheme(["king"], ["own", text]),
    "a thing": lambda text: House(small_scheme()).enter(text, "lord"),
}


class Names(RefusalCase):
    def test_names_are_taken_in_each_place(self):
        for place, made_with in NAME_PLACES.items():
            for text in GOOD_NAMES:
                with self.subTest(place=place, text=text):
                    made_with(text)

    def test_any_other_text_is_refused_in_each_place(self):
        for place, made_with in NAME_PLACES.items():
            for text in bad_names():
                with self.subTest(place=place, text=text):
                    self.refused("NoName", [text], made_with, text)

    def test_every_letter_and_figure_is_a_sign_of_names(self):
        for sign in "abcdefghijklmnopqrstuvwxyz":
            small_house().enter(sign, "lord")
        for sign in "abcdefghijklmnopqrstuvwxyz0123456789":
            small_house().enter("n" + sign, "lord")
            small_house().enter("n" + sign + "n", "lord")

    def test_the_count_of_signs(self):
        for many in range(0, 15):
            with self.subTest(many=many):
                text = "n" * many
                if 1 <= many <= 12:
                    small_house().enter(text, "lord")
                else:
                    self.refused("NoName", [text], small_house().enter, text, "lord")

    def test_what_is_asked_for_by_name_is_refused_as_its_point_tells(self):
        for text in ["", "Lord", "a b", "1a", "abcdefghijklm", "nobody"]:
            with self.subTest(text=text):
                house = small_house()
                self.refused("NoSort", [text], house.enter, "new", text)
                self.refused("NoWord", [text], house.give, "ann", text, "bob")
                self.refused("NoThing", [text], house.wake, text)
                self.refused("NoRule", [text], house.scheme().rule, text)
                self.refused("NoBar", [text], house.scheme().bar, text)
                self.refused("NoMaking", [text, text], house.scheme().without_making, text, text)
                self.refused("NoVariable", [text], Bar, "b", [("v", None)], [("v", "own", text)])


if __name__ == "__main__":
    unittest.main()
