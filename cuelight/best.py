"""The most that can be lit by closing whole lines."""

from itertools import combinations

from cuelight.states import fault_of, lit_places
from cuelight.ways import whole_lines


def best(net, broken):
    """How many places can be lit at the most, and the first of the fewest lines that do so."""
    whole = whole_lines(net, broken)
    most = 0
    chosen = []
    # Fewer lines come first, then the lists ascend: what lights no more than one ahead of it is never better.
    for many in range(len(whole) + 1):
        for closed in combinations(whole, many):
            lights = lit_count(net, closed)
            if lights > most:
                most = lights
                chosen = list(closed)
    return most, chosen


def lit_count(net, closed):
    """How many places these closed lines light; 0 where they may not be closed together."""
    if fault_of(net, closed) is None:
        return len(lit_places(net, closed))
    return 0
