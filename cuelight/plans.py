"""The shortest lists of deeds by which all is lit, or as much as can be without mending."""

from cuelight.errors import NoPlan
from cuelight.search import Search


def plan(net, closed, broken, dark):
    """The first of the shortest lists of deeds that light all, and all states that fewer deeds come to."""
    search = Search(net, closed, broken, dark, ("open", "close", "mend"))
    every = len(net.places())
    states = []
    many = 0
    while search.level:
        for state in search.level:
            if len(search.lights(state)) == every:
                return search.deeds_to(state), sorted(states)
        states.extend([(*state, many) for state in search.level])
        search.go_on()
        many += 1
    raise NoPlan(sorted(states))


def relit(net, closed, broken, dark):
    """The first of the shortest lists of deeds without mending that light the most, and what is lit then."""
    search = Search(net, closed, broken, dark, ("open", "close"))
    brightest = search.level[0]
    while search.level:
        for state in search.level:
            if len(search.lights(state)) > len(search.lights(brightest)):
                brightest = state
        search.go_on()
    return search.deeds_to(brightest), search.lights(brightest)
