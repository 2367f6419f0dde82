"""What can be done at a state, and the states that deeds lead to.

A state is a tuple (closed, broken) of rising tuples of lines.
"""

from cuelight.ways import whole_lines


def state_of(closed, broken):
    """The state of these closed and broken lines."""
    return tuple(sorted(closed)), tuple(sorted(broken))


def deeds_at(net, state):
    """All deeds that can be done at a state, in their order; some may lead to states that may not be."""
    closed, broken = state
    opening = [("open", line) for line in closed]
    closing = [("close", line) for line in whole_lines(net, broken) if line not in closed]
    mending = [("mend", line) for line in broken]
    return opening + closing + mending


def state_after(state, deed):
    """The state behind a deed that can be done, or behind the break of a whole line."""
    closed, broken = state
    word, line = deed
    if word == "open":
        return without_line(closed, line), broken
    if word == "close":
        return with_line(closed, line), broken
    if word == "mend":
        return closed, without_line(broken, line)
    return without_line(closed, line), with_line(broken, line)


def with_line(lines, line):
    """The lines and one more, rising."""
    return tuple(sorted(lines + (line,)))


def without_line(lines, line):
    """The lines but for one."""
    return tuple([other for other in lines if other != line])
