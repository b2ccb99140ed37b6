"""The desk, which does what rows of text say and answers with texts.

Each form of row has a function here, which is handed the parts behind the row's first word: with the
keeper where something is changed, else with its house.
"""

from whomay.errors import BadRow, Barred, WhoError
from whomay.finish import Finish
from whomay.keeper import Keeper
from whomay.least import cure, guards, helpers
from whomay.patterns import Bar, Rule
from whomay.texts import deed_row, house_rows, parts_of, read_deed, read_part, read_scheme, scheme_rows
from whomay.ways import how, may, stones, who


def do_enter(keeper, rest):
    """enter NAME SORT, or with asleep behind it"""
    if len(rest) < 2 or rest[2:] not in ([], ["asleep"]):
        raise BadRow(0)
    keeper.enter(rest[0], rest[1], rest[2:] == [])


def do_give(keeper, rest):
    """give X WORD Y"""
    keeper.give(*rest)


def do_take(keeper, rest):
    """take X WORD Y"""
    keeper.take(*rest)


def do_wake(keeper, rest):
    """wake X"""
    keeper.wake(*rest)


def do_sleep(keeper, rest):
    """sleep X"""
    keeper.sleep(*rest)


def do_play(keeper, rest):
    """play and the row of a deed"""
    keeper.play(read_deed(" ".join(rest)))


def do_add(keeper, rest):
    """add and the row of a rule, bar or making"""
    part = read_part(" ".join(rest))
    if isinstance(part, Rule):
        keeper.add_rule(part)
    elif isinstance(part, Bar):
        keeper.add_bar(part)
    else:
        keeper.add_making(part)


def do_drop(keeper, rest):
    """drop rule NAME, drop bar NAME, drop making MAKER MADE"""
    kind = rest[:1]
    if kind == ["rule"] and len(rest) == 2:
        keeper.drop_rule(rest[1])
    elif kind == ["bar"] and len(rest) == 2:
        keeper.drop_bar(rest[1])
    elif kind == ["making"] and len(rest) == 3:
        keeper.drop_making(rest[1], rest[2])
    else:
        raise BadRow(0)


def do_back(keeper, rest):
    """back"""
    keeper.back()


def tell_may(house, rest):
    """may X WORD Y"""
    return ["yes" if may(house, *rest) else "no"]


def tell_who(house, rest):
    """who WORD Y"""
    return who(house, *rest)


def tell_helpers(house, rest):
    """helpers X WORD Y"""
    return helpers(house, *rest)


def tell_guards(house, rest):
    """guards X WORD Y"""
    return guards(house, *rest)


def tell_stones(house, rest):
    """stones X WORD Y"""
    return [" ".join(holding) for holding in stones(house, *rest)]


def tell_cure(house, rest):
    """cure X WORD Y"""
    return [" ".join(holding) for holding in cure(house, *rest)]


def tell_how(house, rest):
    """how X WORD Y"""
    return [deed_row(deed) for deed in how(house, *rest)]


def tell_house(house, rest):
    """house"""
    return house_rows(house)


def tell_scheme(house, rest):
    """scheme"""
    return scheme_rows(house.scheme())


def tell_finished(house, rest):
    """finished"""
    return house_rows(Finish(house).end())


CHANGES = {
    "enter": do_enter, "give": do_give, "take": do_take, "wake": do_wake, "sleep": do_sleep,
    "play": do_play, "add": do_add, "drop": do_drop, "back": do_back,
}
ANSWERS = {
    "may": tell_may, "who": tell_who, "helpers": tell_helpers, "guards": tell_guards, "stones": tell_stones,
    "cure": tell_cure, "how": tell_how, "house": tell_house, "scheme": tell_scheme, "finished": tell_finished,
}
# How many parts stand behind these words; rows with the others have several forms.
SIZES = {
    "give": 3, "take": 3, "wake": 1, "sleep": 1, "back": 0,
    "may": 3, "who": 2, "helpers": 3, "guards": 3, "stones": 3, "cure": 3, "how": 3,
    "house": 0, "scheme": 0, "finished": 0,
}


def answer(keeper, row):
    """Do what the row says and tell the texts that answer it; refused with BadRow where it is none."""
    parts = parts_of(row)
    if not parts:
        raise BadRow(0)
    word = parts[0]
    rest = parts[1:]
    if len(rest) != SIZES.get(word, len(rest)):
        raise BadRow(0)
    if word in CHANGES:
        change = CHANGES[word]
        change(keeper, rest)
        return ["done"]
    if word in ANSWERS:
        reply = ANSWERS[word]
        return reply(keeper.house(), rest)
    raise BadRow(0)


class Desk:
    """A keeper that is told rows of text."""

    def __init__(self, rows):
        self.keeper = Keeper(read_scheme(rows))

    def tell(self, row):
        """Do what the row says and answer with a list of texts."""
        try:
            return answer(self.keeper, row)
        except Barred as barred:
            spots = " ".join(["bar", barred.name, *barred.spots])
            return [barred.told(), spots, *[deed_row(deed) for deed in barred.deeds]]
        except WhoError as refusal:
            return [refusal.told()]
