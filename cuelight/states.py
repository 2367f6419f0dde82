"""What is lit and what is borne in a state, and which states may be."""

from cuelight.errors import BadDeed, BadState
from cuelight.ways import reached, steps_over, way_to


def lit(net, closed):
    """The places that are lit, rising."""
    check_state(net, closed, [])
    return lit_places(net, closed)


def loads(net, closed):
    """What each closed line bears."""
    check_state(net, closed, [])
    return borne(net, closed)


def lit_places(net, closed):
    """The places, rising, that closed lines join to a source; the state is not checked."""
    return sorted(reached(steps_over(net, closed), net.sources()))


def check_state(net, closed, broken):
    """Refuse a state that names its lines wrongly, then one that may not be."""
    check_numbers(net, closed, broken)
    fault = fault_of(net, closed)
    if fault is not None:
        why, shown = fault
        raise BadState(why, shown)


def check_numbers(net, closed, broken):
    """Refuse numbers that are no lines, a line twice, and a closed line that is broken."""
    many = len(net.lines())
    seen = set()
    for line in closed + broken:
        if not 0 <= line < many:
            raise BadDeed(f"{line} is no line")
        if line in seen:
            raise BadDeed(f"line {line} is named twice")
        seen.add(line)


def fault_of(net, closed):
    """The first word for why these lines may not be closed together, with the lines that show it, or None."""
    rising = sorted(closed)
    ring = ring_of(net, rising)
    if ring:
        return "ring", ring
    way = joined_sources(net, rising)
    if way:
        return "sources", way
    # Only here has each lit place one way from a source, so that loads have a meaning.
    over = overborne(net, rising)
    if over:
        return "over", over
    return None


def ring_of(net, closed):
    """The lines of a ring, in its order; no lines where there is no ring."""
    lines = net.lines()
    steps = steps_over(net, [])
    for line in closed:
        one, other, _ = lines[line]
        came = reached(steps, [one])
        if other in came:
            return way_to(came, other) + [line]
        steps[one].append((line, other))
        steps[other].append((line, one))
    return []


def joined_sources(net, closed):
    """The lines of a way from a source to another, in its order; no lines where none are joined."""
    sources = net.sources()
    steps = steps_over(net, closed)
    for source in sources:
        came = reached(steps, [source])
        for place in came:
            if place != source and place in sources:
                return way_to(came, place)
    return []


def overborne(net, closed):
    """The lines that bear more than their limits, in the order given."""
    lines = net.lines()
    bears = borne(net, closed)
    return [line for line in closed if bears[line] > lines[line][2]]


def borne(net, closed):
    """What each closed line bears where no ring is closed and no two sources are joined."""
    came = reached(steps_over(net, closed), net.sources())
    behind = net.needs()
    bears = {line: 0 for line in sorted(closed)}
    # The farthest places come first, so that all behind a place is summed up ahead of it.
    for place in reversed(list(came)):
        if came[place] is not None:
            line, before = came[place]
            bears[line] = behind[place]
            behind[before] += behind[place]
    return bears
