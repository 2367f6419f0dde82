"""A slow and plain search for plans.

A state is told as a text with a sign for each line: "c" closed, "o" open, "b" broken.
"""

from tests.helpers import has_way, slow_fault

# What each deed makes of a line, in the deeds' order.
CHANGES = {"open": ("c", "o"), "close": ("o", "c"), "mend": ("b", "o")}
SWITCHING = ("open", "close")
ALL = ("open", "close", "mend")


def signs_of(net, closed, broken):
    return "".join("c" if line in closed else "b" if line in broken else "o" for line in range(len(net.lines())))


def lines_with(signs, sign):
    return tuple(line for line, found in enumerate(signs) if found == sign)


def after(signs, deed):
    """The signs behind a deed, or None where it can't be done."""
    word, line = deed
    old, new = CHANGES[word]
    if signs[line] != old:
        return None
    return signs[:line] + new + signs[line + 1:]


class SlowSearch:
    """What can be come to by deeds of some words, reckoned state by state."""

    def __init__(self, net, closed, broken, dark, words=ALL):
        self.net = net
        self.dark = dark
        self.deeds = [(word, line) for word in words for line in range(len(net.lines()))]
        self.first = signs_of(net, closed, broken)
        self.known = {}
        self.at_first = self.lit(self.first)

    def reckoned(self, signs):
        closed = lines_with(signs, "c")
        if closed not in self.known:
            lit = {place for place in self.net.places() if has_way(self.net, closed, place)}
            self.known[closed] = slow_fault(self.net, closed), lit
        return self.known[closed]

    def lit(self, signs):
        return self.reckoned(signs)[1]

    def is_good(self, signs):
        fault, lit = self.reckoned(signs)
        return fault is None and len(self.at_first - lit) <= self.dark

    def fewest(self):
        """For each state that can be come to the fewest deeds that do so."""
        found = {self.first: 0}
        many = 0
        while many in found.values():
            for signs in [signs for signs in found if found[signs] == many]:
                for deed in self.deeds:
                    then = after(signs, deed)
                    if then is not None and then not in found and self.is_good(then):
                        found[then] = many + 1
            many += 1
        return found

    def first_list(self, many, is_end, signs=None, done=()):
        """The first list of so many deeds that ends well, by trying all lists in their order."""
        signs = self.first if signs is None else signs
        if len(done) == many:
            return list(done) if is_end(signs) else None
        for deed in self.deeds:
            then = after(signs, deed)
            if then is not None and self.is_good(then):
                found = self.first_list(many, is_end, then, done + (deed,))
                if found is not None:
                    return found
        return None

    def told(self, found):
        """States as plans tell them."""
        return sorted((lines_with(signs, "c"), lines_with(signs, "b"), found[signs]) for signs in found)

    def plan(self):
        """The deeds and the states of a plan; None and all states where there is no plan."""
        found = self.fewest()
        every = len(self.net.places())
        ends = [found[signs] for signs in found if len(self.lit(signs)) == every]
        if not ends:
            return None, self.told(found)
        many = min(ends)
        nearer = {signs: found[signs] for signs in found if found[signs] < many}
        return self.first_list(many, lambda signs: len(self.lit(signs)) == every), self.told(nearer)

    def relit(self):
        """The deeds to as many lit places as can be, and the places."""
        found = self.fewest()
        most = max(len(self.lit(signs)) for signs in found)
        many = min(found[signs] for signs in found if len(self.lit(signs)) == most)
        deeds = self.first_list(many, lambda signs: len(self.lit(signs)) == most)
        signs = self.first
        for deed in deeds:
            signs = after(signs, deed)
        return deeds, sorted(self.lit(signs))


def slow_best(net, broken):
    """The most places that can be lit and the lines for it, by looking at all sets of whole lines."""
    usable = [line for line in range(len(net.lines())) if line not in broken]
    found = []
    for picked in range(2 ** len(usable)):
        closed = [line for at, line in enumerate(usable) if picked >> at & 1]
        if slow_fault(net, closed) is None:
            lit = sum(has_way(net, closed, place) for place in net.places())
            found.append((-lit, len(closed), closed))
    lit, _, closed = min(found)
    return -lit, closed
