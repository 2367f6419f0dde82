import unittest

from cuelight.desks import Desk
from cuelight.errors import BadDeed, BadState
from cuelight.nets import Net
from tests.helpers import Numbers, has_way, made_net, refused, slow_fault
from tests.slow_plans import after, lines_with, signs_of


def told(desk):
    return desk.closed(), desk.broken(), desk.lights(), desk.deeds()


class Desks(unittest.TestCase):
    def setUp(self):
        # 0* - 1 - 2 and 0* - 2, then 2 - 3 and 3 - 4*; 3 needs too much for lines 2 and 4.
        lines = [(0, 1, 9), (2, 1, 4), (0, 2, 4), (2, 3, 9), (3, 4, 5)]
        self.net = Net([7, 1, 2, 6, 7], [4, 0], lines)
        self.desk = Desk(self.net, [0], [])

    def cannot(self, kind, call, thing):
        """The error that is refused with, which must leave the desk as it was."""
        before = told(self.desk)
        error = refused(self, kind, call, thing)
        self.assertEqual(told(self.desk), before)
        return error

    def test_a_new_desk(self):
        self.assertEqual(told(self.desk), ([0], [], [0, 1, 4], []))
        self.assertEqual(told(Desk(self.net, [1, 0], [4, 3])), ([0, 1], [3, 4], [0, 1, 2, 4], []))
        self.assertEqual(told(Desk(Net([5], [], []), [], [])), ([], [], [], []))

    def test_close(self):
        answer = self.desk.does(("close", 1))
        self.assertEqual(answer, ([2], []))
        self.assertEqual((type(answer), type(answer[0]), type(answer[1])), (tuple, list, list))
        self.assertEqual(told(self.desk), ([0, 1], [], [0, 1, 2, 4], [("close", 1)]))

    def test_open(self):
        desk = Desk(self.net, [1, 0], [])
        self.assertEqual(desk.does(("open", 0)), ([], [1, 2]))
        self.assertEqual(told(desk), ([1], [], [0, 4], [("open", 0)]))

    def test_closing_lights_all_that_hangs_there(self):
        desk = Desk(self.net, [1], [])
        self.assertEqual(desk.does(("close", 2)), ([1, 2], []))
        self.assertEqual(told(desk), ([1, 2], [], [0, 1, 2, 4], [("close", 2)]))

    def test_a_deed_in_the_dark(self):
        desk = Desk(self.net, [], [])
        self.assertEqual(desk.does(("close", 3)), ([], []))
        self.assertEqual(desk.does(("open", 3)), ([], []))
        self.assertEqual(told(desk), ([], [], [0, 4], [("close", 3), ("open", 3)]))

    def test_mend_and_close_again(self):
        desk = Desk(self.net, [0], [2, 1])
        self.assertEqual(desk.does(("mend", 1)), ([], []))
        self.assertEqual(told(desk), ([0], [2], [0, 1, 4], [("mend", 1)]))
        self.assertEqual(desk.does(("close", 1)), ([2], []))
        self.assertEqual(told(desk), ([0, 1], [2], [0, 1, 2, 4], [("mend", 1), ("close", 1)]))

    def test_breaks_of_a_closed_line(self):
        desk = Desk(self.net, [0, 1], [4])
        answer = desk.breaks(0)
        self.assertEqual(answer, ([], [1, 2]))
        self.assertEqual((type(answer), type(answer[0]), type(answer[1])), (tuple, list, list))
        self.assertEqual(told(desk), ([1], [0, 4], [0, 4], [("break", 0)]))

    def test_breaks_of_an_open_line(self):
        self.assertEqual(self.desk.breaks(2), ([], []))
        self.assertEqual(told(self.desk), ([0], [2], [0, 1, 4], [("break", 2)]))

    def test_a_broken_line_is_open_when_mended(self):
        self.desk.breaks(0)
        self.assertEqual(self.desk.does(("mend", 0)), ([], []))
        self.assertEqual(told(self.desk), ([], [], [0, 4], [("break", 0), ("mend", 0)]))
        self.assertEqual(self.desk.does(("close", 0)), ([1], []))
        self.assertEqual(self.desk.breaks(0), ([], [1]))
        self.assertEqual(self.desk.deeds(), [("break", 0), ("mend", 0), ("close", 0), ("break", 0)])

    def test_breaks_that_cannot_be(self):
        self.desk.breaks(2)
        for line in (2, 5, 10, -1):
            self.cannot(BadDeed, self.desk.breaks, line)

    def test_deeds_that_cannot_be_done(self):
        self.desk.breaks(2)
        # An open line, a broken one, and numbers that are no lines.
        for line in (1, 2, 5, 10, -1, -5):
            self.cannot(BadDeed, self.desk.does, ("open", line))
        # A closed line, a broken one, and numbers that are no lines.
        for line in (0, 2, 5, 10, -1, -4):
            self.cannot(BadDeed, self.desk.does, ("close", line))
        # A closed line, an open one, and numbers that are no lines.
        for line in (0, 1, 5, 10, -1, -3):
            self.cannot(BadDeed, self.desk.does, ("mend", line))
        self.assertEqual(self.desk.does(("mend", 2)), ([], []))
        self.cannot(BadDeed, self.desk.does, ("mend", 2))

    def test_a_break_is_no_deed_to_do(self):
        self.cannot(BadDeed, self.desk.does, ("break", 0))

    def test_a_deed_that_would_make_a_ring(self):
        self.desk.does(("close", 1))
        error = self.cannot(BadState, self.desk.does, ("close", 2))
        self.assertEqual((error.why, sorted(error.shown)), ("ring", [0, 1, 2]))
        self.assertEqual(self.desk.does(("open", 0)), ([], [1, 2]))
        self.assertEqual(self.desk.does(("close", 2)), ([1, 2], []))

    def test_a_deed_that_would_join_sources(self):
        net = Net([0, 1, 1, 0], [0, 3], [(0, 1, 9), (1, 2, 9), (2, 3, 9)])
        desk = self.desk = Desk(net, [0, 1], [])
        error = self.cannot(BadState, desk.does, ("close", 2))
        self.assertEqual((error.why, sorted(error.shown)), ("sources", [0, 1, 2]))
        self.assertEqual(desk.does(("open", 1)), ([], [2]))
        self.assertEqual(desk.does(("close", 2)), ([2], []))

    def test_a_deed_that_would_overbear_a_line(self):
        error = self.cannot(BadState, self.desk.does, ("close", 4))
        self.assertEqual((error.why, error.shown), ("over", [4]))
        self.desk = Desk(self.net, [3], [])
        error = self.cannot(BadState, self.desk.does, ("close", 2))
        self.assertEqual((error.why, error.shown), ("over", [2]))

    def test_a_broken_line_is_refused_ahead_of_the_state_it_would_make(self):
        self.desk.does(("close", 1))
        self.desk.breaks(2)
        self.cannot(BadDeed, self.desk.does, ("close", 2))

    def test_places_are_told_rising(self):
        net = Net([0] * 5, [2], [(2, 4, 0), (4, 0, 0), (0, 3, 0), (3, 1, 0)])
        desk = Desk(net, [3, 2, 1], [])
        self.assertEqual(desk.does(("close", 0)), ([0, 1, 3, 4], []))
        self.assertEqual((desk.closed(), desk.lights()), ([0, 1, 2, 3], [0, 1, 2, 3, 4]))
        self.assertEqual(desk.breaks(3), ([], [1]))
        self.assertEqual(desk.breaks(0), ([], [0, 3, 4]))
        self.assertEqual(desk.broken(), [0, 3])

    def test_keywords(self):
        desk = Desk(net=self.net, closed=[], broken=[])
        self.assertEqual(desk.does(deed=("close", 0)), ([1], []))
        self.assertEqual(desk.breaks(line=0), ([], [1]))


class Refusals(unittest.TestCase):
    def setUp(self):
        self.net = Net([0, 5, 5, 0], [0, 3], [(0, 1, 4), (1, 2, 9), (2, 0, 9), (2, 3, 9)])

    def test_bad_deed(self):
        for closed, broken in (([4], []), ([], [4]), ([-1], []), ([], [-1]), ([1, 1], []), ([], [1, 1]), ([1], [1]),
                               ([2, 1], [3, 1])):
            refused(self, BadDeed, Desk, self.net, closed, broken)

    def test_bad_state(self):
        for closed, why in (([0, 1, 2, 3], "ring"), ([0, 2, 3], "sources"), ([0, 2], "over")):
            self.assertEqual(refused(self, BadState, Desk, self.net, closed, []).why, why)
        self.assertEqual(refused(self, BadState, Desk, self.net, [2, 0], [3, 1]).shown, [0])

    def test_two_wrong_things(self):
        for closed, broken in (([0, 1, 2, 9], []), ([0, 2, 3], [-1]), ([0], [0]), ([0, 2], [1, 1])):
            refused(self, BadDeed, Desk, self.net, closed, broken)


class ManyDesks(unittest.TestCase):
    """Desks at which much is done, beside a slow and plain reckoning."""

    def expected(self, net, signs, word, line):
        """The signs behind what is done, or the refusal."""
        if not 0 <= line < len(signs):
            return None, BadDeed
        if word == "break":
            then = None if signs[line] == "b" else signs[:line] + "b" + signs[line + 1:]
        else:
            then = after(signs, (word, line))
        if then is None:
            return None, BadDeed
        return (then, None) if slow_fault(net, lines_with(then, "c")) is None else (None, BadState)

    def test_many_desks(self):
        met = {}
        for seed in range(60):
            net = Net(*made_net(seed, most_lines=7))
            numbers = Numbers(seed)
            desk = Desk(net, [], [])
            signs = signs_of(net, [], [])
            done = []
            for _ in range(40):
                word = ("close", "close", "open", "mend", "break")[numbers.below(5)]
                line = numbers.below(len(signs) + 1)
                then, kind = self.expected(net, signs, word, line)
                met[word, kind] = met.get((word, kind), 0) + 1
                call, thing = (desk.breaks, line) if word == "break" else (desk.does, (word, line))
                if kind is not None:
                    refused(self, kind, call, thing)
                else:
                    were, now = ({place for place in net.places() if has_way(net, lines_with(state, "c"), place)}
                                 for state in (signs, then))
                    self.assertEqual(call(thing), (sorted(now - were), sorted(were - now)))
                    signs = then
                    done.append((word, line))
                lit = [place for place in net.places() if has_way(net, lines_with(signs, "c"), place)]
                self.assertEqual(told(desk), (list(lines_with(signs, "c")), list(lines_with(signs, "b")), lit, done))
        for word in ("close", "open", "mend", "break"):
            self.assertGreater(met.get((word, None), 0), 20)
            self.assertGreater(met.get((word, BadDeed), 0), 20)
        self.assertGreater(met.get(("close", BadState), 0), 20)


if __name__ == "__main__":
    unittest.main()
