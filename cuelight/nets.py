"""Places with needs, the sources among them, and the lines that join them."""

from cuelight.errors import BadNet

MOST_PLACES = 10
MOST_LINES = 10
MOST_WORTH = 1000000


class Net:
    """A net that can be; it never changes."""

    def __init__(self, needs, sources, lines):
        check_needs(needs)
        check_sources(sources, len(needs))
        check_lines(lines, len(needs))
        self._needs = list(needs)
        self._sources = sorted(sources)
        self._lines = list(lines)

    def places(self):
        """The places' numbers, rising."""
        return list(range(len(self._needs)))

    def needs(self):
        """What each place needs, by the places' numbers."""
        return list(self._needs)

    def sources(self):
        """The sources' numbers, rising."""
        return list(self._sources)

    def lines(self):
        """The lines (one, other, limit), as handed in."""
        return list(self._lines)


def check_needs(needs):
    """Refuse a wrong number of places, then the first bad need."""
    if not 1 <= len(needs) <= MOST_PLACES:
        raise BadNet(0, "many")
    for place, need in enumerate(needs):
        if not 0 <= need <= MOST_WORTH:
            raise BadNet(place, "need")


def check_sources(sources, many):
    """Refuse the first source that is none of so many places, or that stands ahead already."""
    for at, source in enumerate(sources):
        if not 0 <= source < many or source in sources[:at]:
            raise BadNet(at, "source")


def check_lines(lines, many):
    """Refuse too many lines, then the first bad one between so many places."""
    if len(lines) > MOST_LINES:
        raise BadNet(0, "lines")
    for at, (one, other, limit) in enumerate(lines):
        if not 0 <= one < many or not 0 <= other < many or one == other:
            raise BadNet(at, "place")
        if not 0 <= limit <= MOST_WORTH:
            raise BadNet(at, "limit")
