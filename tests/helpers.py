"""What several tests need: refusals caught, nets made up, and slow plain ways to the same answers."""

from itertools import combinations

from cuelight.nets import Net

MOST = 10 ** 6


def refused(case, kind, call, *told):
    """The error that the call is refused with, which must be of just this kind."""
    with case.assertRaises(kind) as caught:
        call(*told)
    case.assertIs(type(caught.exception), kind)
    return caught.exception


def told_net(case, kind, needs, sources, lines):
    """The number and the word with which the net is refused."""
    error = refused(case, kind, Net, needs, sources, lines)
    return error.at, error.why


class Numbers:
    """Numbers that look unordered and are the same in each run."""

    def __init__(self, seed):
        self.now = seed

    def below(self, top):
        self.now = (self.now * 1103515245 + 12345) % 2 ** 31
        return (self.now >> 12) % top


def made_net(seed, most_places=6, most_lines=8, most_sources=2):
    """Needs, sources and lines of a small net, by a seed."""
    numbers = Numbers(seed)
    many = 2 + numbers.below(most_places - 1)
    needs = [numbers.below(6) for _ in range(many)]
    sources = []
    for _ in range(numbers.below(most_sources + 1)):
        place = numbers.below(many)
        if place not in sources:
            sources.append(place)
    lines = []
    for _ in range(numbers.below(most_lines + 1)):
        one = numbers.below(many)
        other = (one + 1 + numbers.below(many - 1)) % many
        lines.append((one, other, numbers.below(15)))
    return needs, sources, lines


def simple_ways(net, usable, start):
    """All ways (lines in order, places in order) from a place that come to no place twice."""
    lines = net.lines()
    found = []
    open_ends = [([], [start])]
    while open_ends:
        way, places = open_ends.pop()
        found.append((way, places))
        for line in usable:
            for one, other in (lines[line][:2], lines[line][1::-1]):
                if one == places[-1] and other not in places:
                    open_ends.append((way + [line], places + [other]))
    return found


def parts_of(net, usable):
    """The places as sorted groups of those that the usable lines join."""
    group = {place: {place} for place in net.places()}
    for line in usable:
        one, other, _ = net.lines()[line]
        both = group[one] | group[other]
        for place in both:
            group[place] = both
    return sorted({tuple(sorted(places)) for places in group.values()})


def has_way(net, usable, place):
    """Whether usable lines join the place to a source."""
    return any(place in part and set(part) & set(net.sources()) for part in parts_of(net, usable))


def whole(net, broken):
    return [line for line in range(len(net.lines())) if line not in broken]


def slow_fault(net, closed):
    """The word that a state of these closed lines deserves, or None."""
    parts = parts_of(net, closed)
    if len(closed) > len(net.places()) - len(parts):
        return "ring"
    if any(len(set(part) & set(net.sources())) > 1 for part in parts):
        return "sources"
    if slow_over(net, closed):
        return "over"
    return None


def slow_loads(net, needs, closed):
    """What each closed line bears: the needs of the places whose way goes over it."""
    bears = {line: 0 for line in closed}
    for source in net.sources():
        for way, places in simple_ways(net, closed, source):
            for line in way:
                bears[line] += needs[places[-1]]
    return bears


def slow_over(net, closed):
    bears = slow_loads(net, net.needs(), closed)
    return sorted(line for line in closed if bears[line] > net.lines()[line][2])


def fewest_to_part(net, broken, place):
    """How many lines at the least leave the place without a way."""
    left = whole(net, broken)
    for many in range(len(left) + 1):
        for taken in combinations(left, many):
            if not has_way(net, [line for line in left if line not in taken], place):
                return many


def places_along(net, way, start):
    """The places that the way comes to from a start, or None where it does not hang together."""
    places = [start]
    for line in way:
        one, other, _ = net.lines()[line]
        if places[-1] not in (one, other):
            return None
        places.append(one + other - places[-1])
    return places


def is_ring(net, ring):
    """Whether these lines, in this order, go round and come to no place twice."""
    if len(ring) < 2 or len(set(ring)) < len(ring):
        return False
    for start in net.lines()[ring[0]][:2]:
        places = places_along(net, ring, start)
        if places is not None and places[-1] == start and len(set(places[1:])) == len(ring):
            return True
    return False


def is_way(net, way, starts, end):
    """Whether these lines, in this order, go from one of the starts to the end and come to no place twice."""
    for start in starts:
        places = places_along(net, way, start)
        if places is not None and places[-1] == end and len(set(places)) == len(places):
            return True
    return False
