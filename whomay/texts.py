"""Rows of text for schemes, houses and deeds, written and read."""

from whomay.errors import BadRow, NoDeed
from whomay.houses import House
from whomay.patterns import Bar, Making, Rule
from whomay.schemes import Scheme


def parts_of(row):
    """The parts of the row; none where they do not stand one blank apart."""
    parts = row.split(" ")
    if "" in parts:
        return []
    return parts


def place_of(parts, signs, start):
    """The place of the first part from the start on that is one of the signs, or the end."""
    for place in range(start, len(parts)):
        if parts[place] in signs:
            return place
    return len(parts)


def variable_of(part):
    """The variable that a part tells."""
    name, colon, sort = part.partition(":")
    if colon == "":
        return (name, None)
    return (name, sort)


def pattern_draft(parts):
    """What rules and bars have alike, as (name, variables, conditions), and how many parts it takes."""
    at = place_of(parts, ("|", ">"), 2)
    variables = [variable_of(part) for part in parts[2:at]]
    conditions = []
    while parts[at:at + 1] == ["|"]:
        conditions.append(tuple(parts[at + 1:at + 4]))
        at += 4
    return (parts[1], variables, conditions), at


def bar_draft(parts):
    """With what the bar of the parts is made, or None where they are not of its form."""
    if len(parts) < 2:
        return None
    draft, at = pattern_draft(parts)
    if at != len(parts):
        return None
    return draft


def rule_draft(parts):
    """With what the rule of the parts is made, or None where they are not of its form."""
    if len(parts) < 2:
        return None
    draft, at = pattern_draft(parts)
    rest = parts[at:]
    if len(rest) != 6 or rest[0] != ">" or rest[4] != "by":
        return None
    return (*draft, tuple(rest[1:4]), rest[5])


def making_draft(parts):
    """With what the making of the parts is made, or None where they are not of its form."""
    at = place_of(parts, ("<",), 4)
    if at >= len(parts) or parts[3] != ">":
        return None
    return (parts[1], parts[2], parts[4:at], parts[at + 1:])


def draft_of(row, number):
    """The kind of the row, a rule, bar or making, and with what it is made."""
    parts = parts_of(row)
    draft = None
    if parts[:1] == ["rule"]:
        draft = rule_draft(parts)
    elif parts[:1] == ["bar"]:
        draft = bar_draft(parts)
    elif parts[:1] == ["making"]:
        draft = making_draft(parts)
    if draft is None:
        raise BadRow(number)
    return parts[0], draft


def made_of(kind, draft):
    """The rule, bar or making; refused as its class refuses it."""
    if kind == "rule":
        return Rule(*draft)
    if kind == "bar":
        return Bar(*draft)
    return Making(*draft)


def names_behind(rows, number, word):
    """The names behind the word with which the row of that number has to begin."""
    parts = []
    if number < len(rows):
        parts = parts_of(rows[number])
    if parts[:1] != [word]:
        raise BadRow(number)
    return parts[1:]


def scheme_rows(scheme):
    """The rows of text of the scheme."""
    parts = [*scheme.makings(), *scheme.rules(), *scheme.bars()]
    return [
        " ".join(["sorts", *scheme.sorts()]),
        " ".join(["words", *scheme.words()]),
        *[str(part) for part in parts],
    ]


def read_scheme(rows):
    """The scheme that the rows tell."""
    sorts = names_behind(rows, 0, "sorts")
    words = names_behind(rows, 1, "words")
    # All forms are looked at ahead of what the parts say.
    drafts = [draft_of(row, number) for number, row in enumerate(rows) if number > 1]
    parts = [made_of(kind, draft) for kind, draft in drafts]
    makings = [part for part in parts if isinstance(part, Making)]
    rules = [part for part in parts if isinstance(part, Rule)]
    bars = [part for part in parts if isinstance(part, Bar)]
    return Scheme(sorts, words, makings, rules, bars)


def read_part(row):
    """The rule, bar or making that the row tells."""
    kind, draft = draft_of(row, 0)
    return made_of(kind, draft)


def house_rows(house):
    """The rows of text of the house."""
    rows = []
    for name in house.things():
        state = "awake" if house.is_awake(name) else "asleep"
        rows.append(f"thing {name} {house.sort_of(name)} {state}")
    return [*rows, *[f"holds {x} {word} {y}" for x, word, y in house.held()]]


def house_parts(row, number):
    """The parts of a house's row; refused where it is none."""
    parts = parts_of(row)
    is_thing = parts[:1] == ["thing"] and parts[3:] in (["awake"], ["asleep"])
    is_holding = parts[:1] == ["holds"] and len(parts) == 4
    if not is_thing and not is_holding:
        raise BadRow(number)
    return parts


def read_house(scheme, rows):
    """The house of the scheme that the rows tell."""
    drafts = [house_parts(row, number) for number, row in enumerate(rows)]
    house = House(scheme)
    for kind, first, second, third in drafts:
        if kind == "thing":
            house.enter(first, second, third == "awake")
        else:
            house.give(first, second, third)
    return house


def deed_row(deed):
    """The row of text of the deed."""
    if deed[0] == "do":
        return " ".join(["do", deed[1], *deed[2]])
    if deed[0] not in ("make", "drop"):
        raise NoDeed(deed[0])
    return " ".join(deed)


def read_deed(row):
    """The deed that the row tells."""
    parts = parts_of(row)
    if parts[:1] == ["do"] and len(parts) > 1:
        return ("do", parts[1], tuple(parts[2:]))
    if parts[:1] in (["make"], ["drop"]) and len(parts) == 4:
        return tuple(parts)
    raise BadRow(0)
