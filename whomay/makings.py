"""What the other files ask of a scheme's makings."""

from whomay.errors import NoMaking


def makings_from(scheme, sort):
    """The makings by which a thing of the sort makes others, in the scheme's order."""
    return [making for making in scheme.makings() if making.maker == sort]


def making_between(scheme, maker, made):
    """The making from the one sort to the other."""
    for making in makings_from(scheme, maker):
        if making.made == made:
            return making
    raise NoMaking(maker, made)


def made_holdings(making, maker, name):
    """The holdings that come with a thing of that name, made by that maker."""
    down = [(maker, word, name) for word in making.down]
    up = [(name, word, maker) for word in making.up]
    return [*down, *up]
