"""The refusals: each a class of its own, right under the one base."""


class WhoError(ValueError):
    """Any refusal."""

    def __init__(self, kind="whoerror"):
        self.kind = kind

    def told(self):
        """The row of text that answers for this refusal."""
        return f"refused {self.kind}"


class NoName(WhoError):
    """A text stands where a name is wanted, and is none."""

    def __init__(self, name):
        WhoError.__init__(self, "noname")
        self.name = name


class BadCount(WhoError):
    """There are too few or too many of something."""

    def __init__(self, what, count):
        WhoError.__init__(self, "badcount")
        self.what = what
        self.count = count


class Twice(WhoError):
    """Something stands ahead of it already."""

    def __init__(self, name):
        WhoError.__init__(self, "twice")
        self.name = name


class NoVariable(WhoError):
    """A pattern speaks of a variable that it does not have."""

    def __init__(self, name):
        WhoError.__init__(self, "novariable")
        self.name = name


class Loose(WhoError):
    """A variable stands in no condition."""

    def __init__(self, name):
        WhoError.__init__(self, "loose")
        self.name = name


class Apart(WhoError):
    """A condition hangs on none of those ahead of it."""

    def __init__(self, place):
        WhoError.__init__(self, "apart")
        self.place = place


class NoSort(WhoError):
    """The scheme has no such sort."""

    def __init__(self, name):
        WhoError.__init__(self, "nosort")
        self.name = name


class Upward(WhoError):
    """A making does not go down in the row of sorts."""

    def __init__(self, maker, made):
        WhoError.__init__(self, "upward")
        self.maker = maker
        self.made = made


class NoWord(WhoError):
    """The scheme has no such word."""

    def __init__(self, name):
        WhoError.__init__(self, "noword")
        self.name = name


class NoRule(WhoError):
    """The scheme has no such rule."""

    def __init__(self, name):
        WhoError.__init__(self, "norule")
        self.name = name


class NoBar(WhoError):
    """The scheme has no such bar."""

    def __init__(self, name):
        WhoError.__init__(self, "nobar")
        self.name = name


class NoMaking(WhoError):
    """There is no such making."""

    def __init__(self, maker, made):
        WhoError.__init__(self, "nomaking")
        self.maker = maker
        self.made = made


class NoThing(WhoError):
    """There is no such thing."""

    def __init__(self, name):
        WhoError.__init__(self, "nothing")
        self.name = name


class Taken(WhoError):
    """A thing of the house has that name already."""

    def __init__(self, name):
        WhoError.__init__(self, "taken")
        self.name = name


class Full(WhoError):
    """The house has as many things as it can."""

    def __init__(self):
        WhoError.__init__(self, "full")


class Asleep(WhoError):
    """The thing that would have to act is asleep."""

    def __init__(self, name):
        WhoError.__init__(self, "asleep")
        self.name = name


class NotHeld(WhoError):
    """The holding does not stand."""

    def __init__(self, x, word, y):
        WhoError.__init__(self, "notheld")
        self.x = x
        self.word = word
        self.y = y


class NoDeed(WhoError):
    """There is no such deed."""

    def __init__(self, word):
        WhoError.__init__(self, "nodeed")
        self.word = word


class Misfit(WhoError):
    """What is put in does not fit the variables of the rule."""

    def __init__(self, name):
        WhoError.__init__(self, "misfit")
        self.name = name


class Stands(WhoError):
    """The holding stands already."""

    def __init__(self, x, word, y):
        WhoError.__init__(self, "stands")
        self.x = x
        self.word = word
        self.y = y


class Crowded(WhoError):
    """The finished house would have too many things."""

    def __init__(self, count):
        WhoError.__init__(self, "crowded")
        self.count = count


class Never(WhoError):
    """The holding never comes about."""

    def __init__(self, x, word, y):
        WhoError.__init__(self, "never")
        self.x = x
        self.word = word
        self.y = y


class NoCure(WhoError):
    """Nothing keeps the holding from coming about."""

    def __init__(self, x, word, y):
        WhoError.__init__(self, "nocure")
        self.x = x
        self.word = word
        self.y = y


class Unlike(WhoError):
    """Two schemes are not alike where they have to be."""

    def __init__(self, what):
        WhoError.__init__(self, "unlike")
        self.what = what


class Freer(WhoError):
    """One scheme lets come about what the other does not."""

    def __init__(self, name, row):
        WhoError.__init__(self, "freer")
        self.name = name
        self.row = row


class Barred(WhoError):
    """A bar could come to stand."""

    def __init__(self, name, spots, deeds):
        WhoError.__init__(self, "barred")
        self.name = name
        self.spots = spots
        # A list of the asker's may be changed later; the refusal keeps its own.
        self.deeds = list(deeds)


class NoBack(WhoError):
    """No change is left to be taken back."""

    def __init__(self):
        WhoError.__init__(self, "noback")


class BadRow(WhoError):
    """A row of text is not of its form."""

    def __init__(self, row):
        WhoError.__init__(self, "badrow")
        self.row = row
