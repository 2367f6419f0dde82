"""A desk at which lines are switched and mended, and told of when they break."""

from cuelight.deeds import deeds_at, state_after, state_of
from cuelight.errors import BadDeed
from cuelight.states import check_state, lit_places
from cuelight.ways import whole_lines


class Desk:
    """The state of a net, and all that was done there."""

    def __init__(self, net, closed, broken):
        check_state(net, closed, broken)
        # A net never changes, so that it needs no copy.
        self._net = net
        self._state = state_of(closed, broken)
        self._deeds = []

    def does(self, deed):
        """Do a deed; the places that are lit now and weren't, and those that were and aren't."""
        if deed not in deeds_at(self._net, self._state):
            raise BadDeed(f"{deed} can't be done")
        closed, broken = state_after(self._state, deed)
        check_state(self._net, list(closed), list(broken))
        return self._go(deed)

    def breaks(self, line):
        """Break a whole line; the places that are lit now and weren't, and those that were and aren't."""
        if line not in whole_lines(self._net, self.broken()):
            raise BadDeed(f"{line} is no whole line")
        return self._go(("break", line))

    def closed(self):
        """The closed lines, rising."""
        closed, _ = self._state
        return list(closed)

    def broken(self):
        """The broken lines, rising."""
        _, broken = self._state
        return list(broken)

    def lights(self):
        """The places that are lit, rising."""
        return lit_places(self._net, self.closed())

    def deeds(self):
        """All that was done, in order."""
        return list(self._deeds)

    def _go(self, deed):
        """Go to the state behind a deed or a break; what it lights, and what it darkens."""
        were = self.lights()
        self._state = state_after(self._state, deed)
        self._deeds.append(deed)
        now = self.lights()
        return [place for place in now if place not in were], [place for place in were if place not in now]
