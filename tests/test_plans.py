import unittest

from cuelight.errors import BadDeed, BadState, NoPlan
from cuelight.nets import Net
from cuelight.plans import plan, relit
from tests.helpers import MOST, Numbers, has_way, made_net, refused, slow_fault
from tests.slow_plans import ALL, SWITCHING, SlowSearch, after, lines_with, signs_of


class Plans(unittest.TestCase):
    def go_through(self, net, closed, broken, dark, deeds, words):
        """Do the deeds one by one, each of which must lead to a good state; what is lit at the end."""
        signs = signs_of(net, closed, broken)
        first = {place for place in net.places() if has_way(net, closed, place)}
        lit = first
        for deed in deeds:
            self.assertIs(type(deed), tuple)
            self.assertIn(deed[0], words)
            signs = after(signs, deed)
            self.assertIsNotNone(signs)
            now = lines_with(signs, "c")
            self.assertIsNone(slow_fault(net, now))
            lit = {place for place in net.places() if has_way(net, now, place)}
            self.assertLessEqual(len(first - lit), dark)
        return sorted(lit)

    def check_plan(self, net, closed, broken, dark):
        """Check a plan and its states beside a slow search; the deeds, or None where there is no plan."""
        deeds, states = SlowSearch(net, closed, broken, dark).plan()
        if deeds is None:
            error = refused(self, NoPlan, plan, net, closed, broken, dark)
            self.assertIs(type(error.states), list)
            self.assertEqual(error.states, states)
            return None
        answer = plan(net, closed, broken, dark)
        self.assertIs(type(answer), tuple)
        self.assertEqual(answer, (deeds, states))
        self.assertEqual(self.go_through(net, closed, broken, dark, answer[0], ALL), net.places())
        return answer[0]

    def check_relit(self, net, closed, broken, dark):
        """Check the deeds and the lit places beside a slow search; the deeds."""
        answer = relit(net, closed, broken, dark)
        self.assertIs(type(answer), tuple)
        self.assertEqual(answer, SlowSearch(net, closed, broken, dark, SWITCHING).relit())
        self.assertEqual(self.go_through(net, closed, broken, dark, answer[0], SWITCHING), answer[1])
        return answer[0]


class Plan(Plans):
    def test_all_is_lit_at_first(self):
        row = Net([0, 1, 1], [0], [(0, 1, 2), (1, 2, 1), (0, 2, 9)])
        self.assertEqual(plan(row, [1, 0], [], 0), ([], []))
        self.assertEqual(plan(row, [0, 1], [2], 5), ([], []))
        self.assertEqual(plan(Net([5], [0], []), [], [], 0), ([], []))
        self.assertEqual(plan(Net([5, 5], [0, 1], [(0, 1, 9)]), [], [0], 0), ([], []))

    def test_one_closing(self):
        net = Net([0, 1, 1], [0], [(0, 1, 2), (1, 2, 1)])
        self.assertEqual(plan(net, [0], [], 0), ([("close", 1)], [((0,), (), 0)]))

    def test_the_first_of_the_shortest(self):
        net = Net([0, 1], [0], [(0, 1, 0), (0, 1, 1), (0, 1, 1)])
        self.assertEqual(plan(net, [], [], 0), ([("close", 1)], [((), (), 0)]))
        net = Net([0, 1, 1], [0], [(1, 2, 1), (0, 1, 2)])
        answer = plan(net, [], [], 0)
        self.assertEqual(answer, ([("close", 0), ("close", 1)], [((), (), 0), ((0,), (), 1), ((1,), (), 1)]))

    def test_mending(self):
        net = Net([0, 1, 1], [0], [(0, 1, 2), (1, 2, 1)])
        deeds, states = plan(net, [1], [0], 0)
        self.assertEqual(deeds, [("mend", 0), ("close", 0)])
        # After the mending it could be closed, but line 1 can be opened at any time, too.
        self.assertEqual(states, [((), (0,), 1), ((1,), (), 1), ((1,), (0,), 0)])

    def test_closing_ahead_of_mending(self):
        net = Net([0, 1, 1], [0], [(0, 1, 2), (1, 2, 1)])
        self.assertEqual(plan(net, [], [0], 0)[0], [("close", 1), ("mend", 0), ("close", 0)])
        self.assertEqual(plan(net, [], [1], 0)[0], [("close", 0), ("mend", 1), ("close", 1)])
        self.assertEqual(plan(net, [], [1, 0], 0)[0],
                         [("mend", 0), ("close", 0), ("mend", 1), ("close", 1)])

    def test_opening_ahead_of_closing(self):
        # Line 1 can't bear 3, and line 2 would make a ring until line 0 or 1 is opened.
        net = Net([0, 1, 1, 1], [0], [(0, 1, 2), (1, 2, 1), (0, 2, 2), (2, 3, 9)])
        deeds, states = plan(net, [0, 1], [], 1)
        self.assertEqual(deeds, [("open", 1), ("close", 2), ("close", 3)])
        self.assertEqual(states, SlowSearch(net, [0, 1], [], 1).plan()[1])

    def test_dark_bounds_what_may_go_dark(self):
        net = Net([0, 1, 1, 1], [0], [(0, 1, 2), (1, 2, 1), (0, 2, 2), (2, 3, 9)])
        self.assertEqual(refused(self, NoPlan, plan, net, [0, 1], [], 0).states, [((0, 1), (), 0)])
        self.assertEqual(plan(net, [0, 1], [], 2), plan(net, [0, 1], [], 1000))
        # Two hang on the line that must be opened.
        net = Net([0, 1, 1, 1, 1], [0], [(0, 1, 9), (1, 2, 2), (0, 2, 9), (2, 3, 9), (2, 4, 9)])
        for dark in (0, 1):
            refused(self, NoPlan, plan, net, [0, 1, 3], [], dark)
        self.assertEqual(plan(net, [0, 1, 3], [], 2)[0], [("open", 1), ("close", 2), ("close", 4)])
        for dark in (3, 5, 11, MOST):
            self.assertEqual(plan(net, [0, 1, 3], [], dark)[0], [("open", 0), ("close", 2), ("close", 4)])

    def test_only_what_was_lit_at_first_counts_as_dark(self):
        # Place 1 is fed anew, then darkened again: it was dark at first.
        net = Net([0, 0, 1], [0], [(0, 1, 0), (1, 2, 1), (0, 2, 1)])
        self.assertEqual(plan(net, [], [1], 0)[0], [("close", 0), ("close", 2)])
        states = plan(net, [], [2, 1], 0)[1]
        self.assertIn(((0,), (1, 2), 1), states)
        for states_dark in (plan(net, [0], [2, 1], 0)[1], plan(net, [0], [1, 2], 1)[1]):
            self.assertIn(((0,), (1, 2), 0), states_dark)
        self.assertNotIn(((), (1, 2), 1), plan(net, [0], [2, 1], 0)[1])
        self.assertIn(((), (1, 2), 1), plan(net, [0], [2, 1], 1)[1])

    def test_states_that_may_not_be_are_passed_by(self):
        # Closing line 0 ahead of the opening of line 1 would join the sources.
        net = Net([0, 1, 1, 0], [0, 3], [(0, 1, 1), (1, 2, 9), (2, 3, 1)])
        deeds, states = plan(net, [1], [], 0)
        self.assertEqual(deeds, [("open", 1), ("close", 0), ("close", 2)])
        self.assertEqual([state for state in states if state[0] in ((0, 1), (1, 2), (0, 1, 2))], [])

    def test_no_plan_tells_all_that_can_be_come_to(self):
        net = Net([0, 1, 1], [0], [(0, 1, 1), (0, 1, 1)])
        error = refused(self, NoPlan, plan, net, [], [1], 0)
        self.assertEqual(error.states, [((), (), 1), ((), (1,), 0), ((0,), (), 2), ((0,), (1,), 1), ((1,), (), 2)])
        error = refused(self, NoPlan, plan, net, [0], [1], 0)
        self.assertEqual(error.states, [((0,), (), 1), ((0,), (1,), 0)])
        error = refused(self, NoPlan, plan, net, [0], [1], 1)
        self.assertEqual(error.states, [((), (), 2), ((), (1,), 1), ((0,), (), 1), ((0,), (1,), 0), ((1,), (), 3)])

    def test_no_plan_where_nothing_can_be_done(self):
        self.assertEqual(refused(self, NoPlan, plan, Net([5], [], []), [], [], 0).states, [((), (), 0)])
        self.assertEqual(refused(self, NoPlan, plan, Net([5, 5], [0], []), [], [], 9).states, [((), (), 0)])

    def test_no_plan_without_a_source(self):
        net = Net([0, 0], [], [(0, 1, 9)])
        error = refused(self, NoPlan, plan, net, [], [0], 0)
        self.assertEqual(error.states, [((), (), 1), ((), (0,), 0), ((0,), (), 2)])

    def test_kinds_of_what_is_told(self):
        net = Net([0, 1, 1], [0], [(0, 1, 2), (1, 2, 1)])
        deeds, states = plan(net, [1], [0], 0)
        self.assertEqual((type(deeds), type(states)), (list, list))
        self.assertTrue(all(type(told) is tuple for told in deeds + states))
        self.assertTrue(all(type(closed) is type(broken) is tuple for closed, broken, _ in states))

    def test_lines_are_told_rising_however_they_are_handed_in(self):
        net = Net([0] * 4, [0], [(0, 1, 0), (1, 2, 0), (2, 3, 0), (0, 3, 0), (0, 2, 0)])
        self.assertEqual(plan(net, [2, 1], [4, 3], 0), plan(net, [1, 2], [3, 4], 0))
        self.assertEqual(plan(net, [2, 1], [4, 3], 0)[1], [((1, 2), (3, 4), 0)])

    def test_ten_places_and_ten_lines(self):
        net = Net([0] * 10, [0], [(0, place, 0) for place in range(1, 10)] + [(0, 9, 0)])
        deeds, states = plan(net, [], list(range(10)), 0)
        self.assertEqual(len(deeds), 18)
        self.assertEqual(deeds[:4], [("mend", 0), ("close", 0), ("mend", 1), ("close", 1)])
        self.assertEqual(len(states), len(set(state[:2] for state in states)))
        self.assertEqual(states, sorted(states))
        self.assertEqual(max(many for _, _, many in states), 17)

    def test_keywords(self):
        net = Net([0, 1], [0], [(0, 1, 1)])
        self.assertEqual(plan(net=net, closed=[], broken=[], dark=0), ([("close", 0)], [((), (), 0)]))
        self.assertEqual(relit(net=net, closed=[], broken=[], dark=0), ([("close", 0)], [0, 1]))


class Relit(Plans):
    def test_all_is_lit_at_first(self):
        net = Net([0, 1], [0], [(0, 1, 1)])
        self.assertEqual(relit(net, [0], [], 0), ([], [0, 1]))

    def test_nothing_more_can_be_lit(self):
        net = Net([0, 1, 1], [0], [(0, 1, 1), (1, 2, 1)])
        self.assertEqual(relit(net, [0], [], 0), ([], [0, 1]))
        self.assertEqual(relit(net, [1], [0], 9), ([], [0]))
        self.assertEqual(relit(Net([5, 5], [], [(0, 1, 9)]), [], [], 0), ([], []))
        self.assertEqual(relit(Net([5], [0], []), [], [], 0), ([], [0]))

    def test_no_mending(self):
        net = Net([0, 1, 1, 1], [0], [(0, 1, 1), (0, 2, 1), (0, 3, 1)])
        self.assertEqual(relit(net, [], [1], 0), ([("close", 0), ("close", 2)], [0, 1, 3]))
        self.assertEqual(relit(net, [2], [0, 1], 0), ([], [0, 3]))

    def test_the_first_of_the_shortest(self):
        net = Net([0, 1, 1], [0], [(0, 1, 1), (0, 1, 1), (0, 2, 0)])
        self.assertEqual(relit(net, [], [], 0), ([("close", 0)], [0, 1]))
        net = Net([0, 1, 1], [0], [(1, 2, 1), (0, 2, 2), (0, 1, 2)])
        self.assertEqual(relit(net, [], [], 0), ([("close", 0), ("close", 1)], [0, 1, 2]))

    def test_a_longer_list_that_lights_more(self):
        net = Net([0, 9, 1, 1], [0], [(0, 1, 9), (0, 2, 2), (2, 3, 1)])
        self.assertEqual(relit(net, [], [0], 0), ([("close", 1), ("close", 2)], [0, 2, 3]))

    def test_dark_bounds_what_may_go_dark(self):
        # 3 and 4 can be lit where 2 is darkened, but not beside it.
        net = Net([0, 0, 3, 2, 2], [0], [(0, 1, 4), (1, 2, 3), (1, 3, 2), (1, 4, 2)])
        self.assertEqual(relit(net, [0, 1], [], 0), ([], [0, 1, 2]))
        self.assertEqual(relit(net, [0, 1], [], 1), ([("open", 1), ("close", 2), ("close", 3)], [0, 1, 3, 4]))
        self.assertEqual(relit(net, [0, 1], [], 99), relit(net, [0, 1], [], 1))

    def test_ten_places_and_ten_lines(self):
        net = Net([1] * 10, [9], [(at, (at + 1) % 10, 5) for at in range(10)])
        deeds, places = relit(net, [], [], 0)
        self.assertEqual(deeds, [("close", line) for line in (0, 1, 2, 3, 5, 6, 7, 8, 9)])
        self.assertEqual(places, list(range(10)))


class Refusals(unittest.TestCase):
    def both(self, kind, *told):
        """The error of each of the two, which must be alike."""
        first = refused(self, kind, plan, *told)
        second = refused(self, kind, relit, *told)
        if kind is BadState:
            self.assertEqual((first.why, first.shown), (second.why, second.shown))
        return first

    def test_bad_deed(self):
        net = Net([0, 1, 1], [0], [(0, 1, 9), (1, 2, 9)])
        for closed, broken in (([2], []), ([], [2]), ([-1], []), ([], [-1]), ([0, 5], [1]), ([0], [1, -2]),
                               ([0, 0], []), ([], [1, 1]), ([0], [0]), ([1, 0], [0]), ([1], [0, 1])):
            self.both(BadDeed, net, closed, broken, 0)

    def test_bad_state(self):
        net = Net([0, 5, 5, 0, 0], [0, 4], [(0, 1, 9), (1, 2, 9), (2, 0, 9), (2, 3, 9), (4, 3, 9)])
        error = self.both(BadState, net, [3, 2, 1, 0], [4], 0)
        self.assertEqual((error.why, sorted(error.shown)), ("ring", [0, 1, 2]))
        error = self.both(BadState, net, [2, 4, 3], [], 0)
        self.assertEqual((error.why, sorted(error.shown)), ("sources", [2, 3, 4]))
        error = self.both(BadState, net, [1, 0], [], 9)
        self.assertEqual((error.why, error.shown), ("over", [0]))

    def test_two_wrong_things(self):
        net = Net([0, 5, 5, 0], [0, 3], [(0, 1, 4), (1, 2, 9), (2, 0, 9), (2, 3, 9)])
        for closed, broken in (([0, 1, 2, 9], []), ([0, 1, 2], [-1]), ([0, 1, 2], [2]), ([2, 3, 3], []),
                               ([0], [0]), ([0], [1, 1])):
            self.both(BadDeed, net, closed, broken, 0)
        self.assertEqual(self.both(BadState, net, [0, 1, 2, 3], [], 0).why, "ring")
        self.assertEqual(self.both(BadState, net, [0, 2, 3], [], 0).why, "sources")
        self.assertEqual(self.both(BadState, net, [0, 2], [3], 0).why, "over")

    def test_ahead_of_all_else(self):
        # Neither of these could ever be lit, and yet the state is refused first.
        net = Net([0, 5, 5], [0], [(0, 1, 4)])
        self.both(BadDeed, net, [1], [], 0)
        self.both(BadState, net, [0], [], 0)
        lit = Net([0, 5], [0, 1], [(0, 1, 4)])
        self.both(BadDeed, lit, [0], [0], 0)
        self.assertEqual(self.both(BadState, lit, [0], [], 0).why, "sources")


class ManyPlans(Plans):
    """Many small nets in many states, beside a slow search."""

    def nets(self):
        """Nets of all kinds, then some that can often be lit, with many lines for few places."""
        for seed in range(80):
            yield Net(*made_net(seed, most_places=5, most_lines=5))
        for seed in range(1000, 1100):
            numbers = Numbers(seed)
            many = 3 + numbers.below(2)
            needs = [numbers.below(4) for _ in range(many)]
            sources = [0, 1][:1 + numbers.below(5) // 4]
            lines = [(1 + at, numbers.below(1 + at), 2 + numbers.below(7)) for at in range(many - 1)]
            while len(lines) < 5:
                one = numbers.below(many)
                lines.append((one, (one + 1 + numbers.below(many - 1)) % many, 2 + numbers.below(6)))
            turn = numbers.below(5)
            yield Net(needs, sources, lines[turn:] + lines[:turn])

    def states_of(self, net, numbers):
        """Some states that may be."""
        found = []
        for at in range(16):
            choice = ("coobcb", "ccccoo")[at % 2]
            signs = "".join(choice[numbers.below(6)] for _ in net.lines())
            closed = list(lines_with(signs, "c"))
            if slow_fault(net, closed) is None and (closed, signs) not in found:
                found.append((closed, signs))
        return [(closed[::-1], list(lines_with(signs, "b"))[::-1]) for closed, signs in found]

    def test_many_plans(self):
        numbers = Numbers(7)
        lengths = []
        openings = 0
        for net in self.nets():
            for closed, broken in self.states_of(net, numbers):
                deeds = self.check_plan(net, closed, broken, numbers.below(3))
                lengths.append(None if deeds is None else len(deeds))
                openings += bool(deeds) and deeds[0][0] == "open"
        self.assertTrue(all(lengths.count(many) > 5 for many in (None, 0, 1, 2, 3, 4, 5)), lengths)
        self.assertGreater(openings, 5)

    def test_many_relit(self):
        numbers = Numbers(8)
        lengths = []
        for net in self.nets():
            for closed, broken in self.states_of(net, numbers):
                lengths.append(len(self.check_relit(net, closed, broken, numbers.below(3))))
        self.assertTrue(all(lengths.count(many) > 5 for many in (0, 1, 2, 3)), lengths)


if __name__ == "__main__":
    unittest.main()
