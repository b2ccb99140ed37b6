"""Deeds of one scheme carried over to another."""

from whomay.compare import carried
from whomay.deeds import after
from whomay.finish import Finish
from whomay.ways import deeds_for


def translated(house, deeds, other):
    """Deeds by the other scheme behind which stands all that stands behind these."""
    # Only its refusals are asked for: what follows shows that the whole way can be carried over.
    carried(house.scheme(), other)
    wanted = after(house, deeds).held()
    makes = [deed for deed in deeds if deed[0] == "make"]
    # Whatever is let go on the way, all that stands at the end may come about once all is made.
    finish = Finish(after(house.moved_to(other), makes))
    return [*makes, *deeds_for(other, finish, wanted)]
