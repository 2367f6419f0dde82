"""Which lines part places from all sources, and the ways that are left."""

from cuelight.errors import NoCut
from cuelight.ways import reached, steps_over, way_to, whole_lines


def parted(net, broken, place):
    """The fewest whole lines that part the place from all sources, and as many ways that share none."""
    sources = net.sources()
    if place in sources:
        raise NoCut(f"place {place} is a source")
    whole = whole_lines(net, broken)
    steps = steps_over(net, whole)
    heads = most_used(steps, sources, place)
    return cut_lines(net, whole, reached(spare_steps(steps, heads), sources)), used_ways(steps, heads, sources, place)


def keeps(net, broken):
    """Whether each place has a way from a source."""
    return len(kept_places(net, broken)) == len(net.places())


def weak(net, broken):
    """The whole lines, rising, any one of which alone takes the last way from some place."""
    many = len(kept_places(net, broken))
    return [line for line in whole_lines(net, broken) if len(kept_places(net, broken + [line])) < many]


def kept_places(net, broken):
    """The places that have a way from a source."""
    return list(reached(steps_over(net, whole_lines(net, broken)), net.sources()))


def most_used(steps, sources, place):
    """The lines that the most ways to the place use: with each line the place to which it is gone."""
    heads = {}
    came = reached(spare_steps(steps, heads), sources)
    while place in came:
        use_way(heads, came, place)
        came = reached(spare_steps(steps, heads), sources)
    return heads


def spare_steps(steps, heads):
    """All steps but those that are in use; a step against one in use takes it back."""
    return {place: [step for step in steps[place] if heads.get(step[0]) != step[1]] for place in steps}


def used_steps(steps, heads):
    """The steps that are in use."""
    return {place: [step for step in steps[place] if heads.get(step[0]) == step[1]] for place in steps}


def use_way(heads, came, place):
    """Take the way to the place into use."""
    while came[place] is not None:
        line, before = came[place]
        if line in heads:
            # Gone both ways, a line serves neither: two ways change their tails instead.
            del heads[line]
        else:
            heads[line] = place
        place = before


def cut_lines(net, whole, came):
    """The whole lines with one end among the places that were come to, rising."""
    lines = net.lines()
    return [line for line in whole if (lines[line][0] in came) != (lines[line][1] in came)]


def used_ways(steps, heads, sources, place):
    """The ways over the steps in use, which share no line."""
    left = dict(heads)
    ways = []
    came = reached(used_steps(steps, left), sources)
    while place in came:
        way = way_to(came, place)
        for line in way:
            del left[line]
        ways.append(way)
        came = reached(used_steps(steps, left), sources)
    return ways
