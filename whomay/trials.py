"""Holdings given one by one, each taken back where it leads to what is never to come about."""

from whomay.growth import Growth


class Trial(Growth):
    """A growth that stops as soon as it brings one of those that lead to what is never to come about."""

    def __init__(self, scheme, things):
        super().__init__(scheme, things)
        self.brought = []
        self.deadly = {}
        self.failed = False

    def shun(self, holding):
        """Let the holding be one that is never to come about."""
        self.deadly[self.cast.numbered(holding)] = True

    def bring(self, triple, reason):
        """As any growth does it; what comes is marked, so that it can be taken back."""
        super().bring(triple, reason)
        self.brought.append(triple)
        if triple in self.deadly:
            self.failed = True

    def spread(self, triple):
        """As any growth does it, unless nothing more has to be known."""
        if not self.failed:
            super().spread(triple)

    def bears(self, holding):
        """Give the holding for good and tell True, unless it leads to what is never to come about."""
        if holding in self.round_by_holding:
            return True
        self.brought = []
        self.begin(holding, ("held",))
        self.run()
        if not self.failed:
            return True
        self.take_back()
        # What stands only ever grows, so whatever leads to this holding later on fails with it.
        self.shun(holding)
        return False

    def take_back(self):
        """Let all that was brought since the last holding was given stand no longer."""
        for triple in self.brought:
            self.known.drop(triple)
            self.closed.drop(triple)
            del self.round_by_holding[self.cast.named(triple)]
            del self.reason_by_holding[self.cast.named(triple)]
        self.failed = False
