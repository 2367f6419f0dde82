"""The states that deeds come to from a first one, the nearest first."""

from cuelight.deeds import deeds_at, state_after, state_of
from cuelight.states import check_state, fault_of, lit_places


class Search:
    """A search through good states, one deed farther at a time.

    The level holds all states that so many deeds come to, and no fewer. They stand in the order of the first lists
    of deeds that come to them, since each level is made in the order of the level ahead of it.
    """

    def __init__(self, net, closed, broken, dark, words):
        check_state(net, closed, broken)
        first = state_of(closed, broken)
        self._net = net
        self._dark = dark
        self._words = words
        self._lit_at_first = lit_places(net, closed)
        # Many states have the same closed lines and differ in what is broken.
        self._reckoned = {}
        self._came = {first: None}
        self.level = [first]

    def go_on(self):
        """Come to the states that are one deed farther."""
        ahead = []
        for state in self.level:
            for deed in self._deeds_at(state):
                after = state_after(state, deed)
                if after not in self._came and self._is_good(after):
                    self._came[after] = (deed, state)
                    ahead.append(after)
        self.level = ahead

    def lights(self, state):
        """The places that are lit in a state that was come to, rising."""
        lights, _ = self._reckon(state)
        return list(lights)

    def deeds_to(self, state):
        """The first of the shortest lists of deeds to a state that was come to."""
        deeds = []
        while self._came[state] is not None:
            deed, state = self._came[state]
            deeds.append(deed)
        return deeds[::-1]

    def _deeds_at(self, state):
        return [deed for deed in deeds_at(self._net, state) if deed[0] in self._words]

    def _is_good(self, state):
        reckoned = self._reckon(state)
        return reckoned is not None and reckoned[1] <= self._dark

    def _reckon(self, state):
        """What is lit, and how much of what was lit at first is not; None for a state that may not be."""
        closed, _ = state
        if closed not in self._reckoned:
            self._reckoned[closed] = reckon(self._net, closed, self._lit_at_first)
        return self._reckoned[closed]


def reckon(net, closed, lit_at_first):
    """What these closed lines light, and how much of what was lit at first they don't; None if they may not be."""
    if fault_of(net, closed) is not None:
        return None
    lights = lit_places(net, closed)
    return lights, len([place for place in lit_at_first if place not in lights])
