"""Point 1: nothing handed in is changed, what is kept or given back is a copy, and asking changes nothing."""

import unittest

from cuelight.best import best
from cuelight.cuts import keeps, parted, weak
from cuelight.desks import Desk
from cuelight.errors import BadDeed, BadNet, BadState, BadText, NoCut, NoPlan
from cuelight.nets import Net
from cuelight.notes import read, written
from cuelight.plans import plan, relit
from cuelight.states import lit, loads
from tests.helpers import refused

NEEDS = [0, 3, 5, 2, 4]
SOURCES = [4, 0]
LINES = [(1, 0, 9), (1, 2, 5), (2, 0, 9), (3, 4, 1), (3, 2, 9)]


def answers(net):
    """An answer of each function and method that is not refused."""
    return [net.places(), net.needs(), net.sources(), net.lines(), lit(net, [1, 0]), loads(net, [1, 0]),
            parted(net, [3], 3), parted(net, [4], 2), keeps(net, [3, 0]), weak(net, [3, 0]), best(net, [2]),
            plan(net, [1], [4, 0], 1), relit(net, [1], [4, 0], 1), plan(net, [1, 0], [4, 2], 1), no_plan(net),
            written(net), asked(Desk(net, [1, 0], [4, 2])), asked(read(written(net)))]


def asked(thing):
    """What the methods of a net or a desk tell."""
    if type(thing) is Net:
        return [thing.places(), thing.needs(), thing.sources(), thing.lines()]
    return [thing.closed(), thing.broken(), thing.lights(), thing.deeds()]


def no_plan(net):
    """The states that are told where there is no plan."""
    try:
        plan(net, [1, 0], [4, 2], 0)
    except NoPlan as error:
        return error.states
    raise AssertionError("there is a plan")


class Copies(unittest.TestCase):
    def setUp(self):
        self.net = Net(list(NEEDS), list(SOURCES), list(LINES))

    def test_the_same_question_has_the_same_answer(self):
        first = answers(self.net)
        self.assertEqual(answers(self.net), first)
        self.assertEqual(answers(Net(NEEDS, SOURCES, LINES)), first)

    def test_a_net_changes_nothing_that_it_is_made_of(self):
        needs, sources, lines = list(NEEDS), list(SOURCES), list(LINES)
        answers(Net(needs, sources, lines))
        self.assertEqual((needs, sources, lines), (NEEDS, SOURCES, LINES))

    def test_a_net_keeps_copies(self):
        needs, sources, lines = list(NEEDS), list(SOURCES), list(LINES)
        net = Net(needs, sources, lines)
        first = answers(net)
        needs[1] = 99
        needs.append(1)
        sources.clear()
        lines[0] = (3, 2, 0)
        lines.pop()
        self.assertEqual(answers(net), first)

    def test_a_refused_net_changes_nothing(self):
        for needs, sources, lines in (([], [2, 1], [(1, 0, 1)]), ([1, -1], [1, 0], [(1, 0, 1)]),
                                      ([2, 1], [1, 0, 1], [(1, 0, 1)]), ([2, 1], [1, 0], [(1, 0, 1)] * 11),
                                      ([2, 1], [1, 0], [(1, 0, 1), (1, 1, 1)]), ([2, 1], [1, 0], [(1, 0, -1)])):
            kept = list(needs), list(sources), list(lines)
            refused(self, BadNet, Net, needs, sources, lines)
            self.assertEqual((needs, sources, lines), kept)

    def test_what_a_net_gives_may_be_changed(self):
        first = answers(self.net)
        for given in (self.net.places(), self.net.needs(), self.net.sources(), self.net.lines()):
            given.reverse()
            given.append(7)
        self.assertEqual(answers(self.net), first)

    def test_what_functions_give_may_be_changed(self):
        first = answers(self.net)
        lit(self.net, [1, 0]).append(7)
        loads(self.net, [1, 0]).clear()
        cut, ways = parted(self.net, [4], 2)
        cut.append(7)
        ways[0].append(7)
        ways.pop()
        weak(self.net, [3, 0]).append(7)
        best(self.net, [2])[1].append(7)
        for given in plan(self.net, [1], [4, 0], 1) + relit(self.net, [1], [4, 0], 1):
            given.clear()
        no_plan(self.net).clear()
        for given in asked(read(written(self.net))):
            given.clear()
        self.assertEqual(answers(self.net), first)

    def test_functions_change_nothing_that_they_are_handed(self):
        closed = [1, 0]
        lit(self.net, closed)
        loads(self.net, closed)
        self.assertEqual(closed, [1, 0])
        broken = [3, 0]
        parted(self.net, broken, 2)
        keeps(self.net, broken)
        weak(self.net, broken)
        best(self.net, broken)
        self.assertEqual(broken, [3, 0])

    def test_plans_and_desks_change_nothing_that_they_are_handed(self):
        closed, broken = [2, 1], [4, 3, 0]
        plan(self.net, closed, broken, 1)
        relit(self.net, closed, broken, 1)
        desk = Desk(self.net, closed, broken)
        desk.does(("mend", 3))
        desk.does(("open", 1))
        desk.breaks(2)
        self.assertEqual((closed, broken), ([2, 1], [4, 3, 0]))
        closed, broken = [1, 0], [4, 2]
        refused(self, NoPlan, plan, self.net, closed, broken, 0)
        self.assertEqual((closed, broken), ([1, 0], [4, 2]))

    def test_a_desk_keeps_copies(self):
        closed, broken = [1, 0], [4, 2]
        desk = Desk(self.net, closed, broken)
        closed.append(3)
        broken.clear()
        for given in (self.net.needs(), self.net.sources(), self.net.lines()):
            given.clear()
        self.assertEqual(asked(desk), [[0, 1], [2, 4], [0, 1, 2, 4], []])
        self.assertEqual(desk.does(("mend", 2)), ([], []))
        self.assertEqual(refused(self, BadState, desk.does, ("close", 2)).why, "ring")

    def test_what_a_desk_gives_may_be_changed(self):
        desk = Desk(self.net, [1, 0], [4, 2])
        for given in desk.does(("open", 1)) + desk.breaks(0):
            given.append(7)
        first = asked(desk)
        self.assertEqual(first, [[], [0, 2, 4], [0, 4], [("open", 1), ("break", 0)]])
        for given in asked(desk):
            given.append(7)
            given.reverse()
        self.assertEqual(asked(desk), first)
        self.assertEqual(desk.does(("mend", 4)), ([], []))
        self.assertEqual(asked(desk), [[], [0, 2], [0, 4], [("open", 1), ("break", 0), ("mend", 4)]])

    def test_desks_share_nothing(self):
        first = answers(self.net)
        desk, other = Desk(self.net, [1, 0], [4, 2]), Desk(self.net, [1, 0], [4, 2])
        kept = asked(other)
        desk.does(("open", 0))
        desk.breaks(3)
        self.assertEqual(asked(other), kept)
        self.assertEqual(answers(self.net), first)

    def test_what_is_given_back_is_not_what_was_handed_in(self):
        net = Net([0, 0], [0], [(0, 1, 0), (0, 1, 0)])
        closed = [1, 0]
        error = refused(self, BadState, lit, net, closed)
        error.shown.clear()
        self.assertEqual(closed, [1, 0])
        broken = [0]
        self.assertEqual(weak(net, broken), [1])
        weak(net, broken).append(5)
        parted(net, broken, 1)[0].append(5)
        self.assertEqual(broken, [0])

    def test_refusals_change_nothing(self):
        first = answers(self.net)
        for kind, closed in ((BadState, [2, 1, 0]), (BadState, [4, 3, 2]), (BadState, [4, 1, 2]),
                             (BadDeed, [2, 1, 2]), (BadDeed, [9, 0])):
            for call in (lit, loads):
                kept = list(closed)
                error = refused(self, kind, call, self.net, closed)
                self.assertEqual(closed, kept)
                if kind is BadState:
                    shown = list(error.shown)
                    error.shown.append(7)
                    self.assertEqual(refused(self, kind, call, self.net, closed).shown, shown)
        broken = [3, 1]
        refused(self, NoCut, parted, self.net, broken, 4)
        self.assertEqual(broken, [3, 1])
        for kind, closed, broken in ((BadState, [2, 1, 0], [4, 3]), (BadState, [4, 3, 2], [1, 0]),
                                     (BadDeed, [2, 1, 2], [4, 3]), (BadDeed, [2, 1], [4, 1]), (BadDeed, [2], [9, 3])):
            kept = list(closed), list(broken)
            refused(self, kind, plan, self.net, closed, broken, 0)
            refused(self, kind, relit, self.net, closed, broken, 0)
            refused(self, kind, Desk, self.net, closed, broken)
            self.assertEqual((closed, broken), kept)
        refused(self, BadText, read, written(self.net) + "\n")
        refused(self, BadNet, read, "place 3\nline 0 0 3")
        self.assertEqual(answers(self.net), first)

    def test_nets_share_nothing(self):
        first = answers(self.net)
        other = Net([7, 7], [1], [(0, 1, 7)])
        self.assertEqual(loads(other, [0]), {0: 7})
        self.assertEqual(weak(other, []), [0])
        self.assertEqual(answers(self.net), first)
        self.assertEqual((other.places(), other.sources(), other.lines()), ([0, 1], [1], [(0, 1, 7)]))


if __name__ == "__main__":
    unittest.main()
