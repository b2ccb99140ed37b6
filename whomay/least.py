"""The hands that are needed for a holding to come about, and what it takes to keep it from it."""

from whomay.children import children_of, makers_of, refuse_crowded
from whomay.errors import NoCure
from whomay.finish import begin_made, finished_things
from whomay.fitting import hand_at
from whomay.trials import Trial
from whomay.ways import how, may, way_or_none


def hand_of(scheme, deed):
    """The thing that does the deed, a making or one by a rule."""
    if deed[0] == "make":
        return deed[1]
    return hand_at(scheme.rule(deed[1]), deed[2])


def helpers(house, x, word, y):
    """The hands that must act, found by putting one after the other to sleep."""
    way = how(house, x, word, y)
    later = house.twin()
    for name in makers_of(house):
        later.sleep(name)
        # The way stays one while only such sleep as do no deed of it.
        if name in [hand_of(house.scheme(), deed) for deed in way]:
            other = way_or_none(later, x, word, y)
            if other is None:
                later.wake(name)
            else:
                way = other
    return makers_of(later)


def guards(house, x, word, y):
    """The hands whose sleep keeps the holding from coming about, found by waking one after the other."""
    if not may(house, x, word, y):
        return []
    if house.holds(x, word, y):
        raise NoCure(x, word, y)
    later = house.twin()
    hands = makers_of(house)
    for name in hands:
        later.sleep(name)
    for name in hands:
        later.wake(name)
        if may(later, x, word, y):
            later.sleep(name)
    return [name for name in hands if not later.is_awake(name)]


def cure(house, x, word, y):
    """The holdings without which it never comes about, found by giving one after the other again."""
    house.refuse_strange(x, word, y)
    refuse_crowded(house)
    children = children_of(house)
    trial = Trial(house.scheme(), finished_things(house, children))
    trial.shun((x, word, y))
    begin_made(trial, children)
    trial.run()
    if trial.failed:
        raise NoCure(x, word, y)
    kept_back = []
    for holding in house.held():
        if not trial.bears(holding):
            kept_back.append(holding)
    return kept_back
