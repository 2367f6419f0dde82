"""Ways over some of the lines of a net."""


def whole_lines(net, broken):
    """The lines that are not broken, rising."""
    return [line for line in range(len(net.lines())) if line not in broken]


def steps_over(net, numbers):
    """For each place the steps (line, next place) that lines of these numbers offer there."""
    lines = net.lines()
    steps = {place: [] for place in net.places()}
    for number in numbers:
        one, other, _ = lines[number]
        steps[one].append((number, other))
        steps[other].append((number, one))
    return steps


def reached(steps, starts):
    """Each place that steps from the starts come to, the nearest first.

    With each place stands the step that came to it, (line, place before); with a start None.
    """
    came = {place: None for place in starts}
    queue = list(starts)
    at = 0
    while at < len(queue):
        before = queue[at]
        for line, place in steps[before]:
            if place not in came:
                came[place] = (line, before)
                queue.append(place)
        at += 1
    return came


def way_to(came, place):
    """The lines from a start to a place that was reached, in order."""
    way = []
    while came[place] is not None:
        line, place = came[place]
        way.append(line)
    return way[::-1]
