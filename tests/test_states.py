import unittest
from itertools import combinations

from cuelight.errors import BadDeed, BadState
from cuelight.nets import Net
from cuelight.states import check_state, lit, loads
from tests.helpers import (MOST, has_way, is_ring, is_way, made_net, refused, slow_fault, slow_loads, slow_over)


class States(unittest.TestCase):
    def setUp(self):
        # 1 - 0* - 2 - 3 - 4, and 5 - 6 apart, 7* alone
        lines = [(0, 1, 9), (2, 0, 99), (2, 3, 50), (4, 3, 30), (5, 6, 0)]
        self.net = Net([1000, 2, 4, 8, 16, 32, 64, 2000], [7, 0], lines)

    def test_lit(self):
        self.assertEqual(lit(self.net, [3, 2, 1, 0, 4]), [0, 1, 2, 3, 4, 7])
        self.assertEqual(lit(self.net, [0]), [0, 1, 7])
        self.assertEqual(lit(self.net, []), [0, 7])
        self.assertEqual(lit(self.net, [2, 3, 4]), [0, 7])

    def test_loads(self):
        self.assertEqual(loads(self.net, [3, 2, 1, 0, 4]), {0: 2, 1: 28, 2: 24, 3: 16, 4: 0})
        self.assertEqual(loads(self.net, [1, 3]), {1: 4, 3: 0})
        self.assertEqual(loads(self.net, [2, 4]), {2: 0, 4: 0})
        self.assertEqual(loads(self.net, []), {})

    def test_a_line_bears_all_branches_behind_it(self):
        net = Net([5, 1, 10, 100, 1000], [0], [(1, 0, 1111), (1, 2, 10), (3, 1, 1100), (3, 4, 1000)])
        self.assertEqual(loads(net, [0, 1, 2, 3]), {0: 1111, 1: 10, 2: 1100, 3: 1000})

    def test_needs_of_sources_are_borne_by_no_line(self):
        net = Net([MOST, 3, MOST], [0, 2], [(0, 1, 3), (1, 2, 3)])
        self.assertEqual(loads(net, [0]), {0: 3})
        self.assertEqual(loads(net, [1]), {1: 3})

    def test_keywords(self):
        self.assertEqual(lit(net=self.net, closed=[0]), [0, 1, 7])
        self.assertEqual(loads(net=self.net, closed=[0]), {0: 2})

    def test_one_place(self):
        self.assertEqual((lit(Net([5], [], []), []), loads(Net([5], [], []), [])), ([], {}))
        self.assertEqual((lit(Net([5], [0], []), []), loads(Net([5], [0], []), [])), ([0], {}))

    def test_no_source(self):
        net = Net([5, 5, 5], [], [(0, 1, 0), (1, 2, 0)])
        self.assertEqual((lit(net, [0, 1]), loads(net, [0, 1])), ([], {0: 0, 1: 0}))

    def test_all_places_sources(self):
        net = Net([5, 5, 5], [0, 1, 2], [(0, 1, 0)])
        self.assertEqual((lit(net, []), loads(net, [])), ([0, 1, 2], {}))

    def test_ten_places_on_a_row(self):
        net = Net([MOST] * 10, [9], [(at, at + 1, MOST) for at in range(9)])
        self.assertEqual((lit(net, [8]), loads(net, [8])), ([8, 9], {8: MOST}))
        self.assertEqual(refused(self, BadState, lit, net, list(range(9))).shown, list(range(1, 9)))
        net = Net([1] * 10, [9], [(at, at + 1, at + 1) for at in range(9)])
        self.assertEqual(lit(net, list(range(9))), list(range(10)))
        self.assertEqual(loads(net, list(range(9))), {at: at + 1 for at in range(9)})

    def test_one_of_several_lines_between_the_same_places(self):
        net = Net([1, 7], [0], [(0, 1, 6), (1, 0, 7), (0, 1, 8)])
        self.assertEqual((lit(net, [1]), loads(net, [1])), ([0, 1], {1: 7}))
        self.assertEqual((lit(net, [2]), loads(net, [2])), ([0, 1], {2: 7}))

    def test_needs_and_limits_of_0_and_of_the_most(self):
        net = Net([0, 0, MOST], [0], [(0, 1, 0), (0, 2, MOST), (1, 2, 0)])
        self.assertEqual((lit(net, [0, 1]), loads(net, [0, 1])), ([0, 1, 2], {0: 0, 1: MOST}))

    def test_a_line_at_its_limit_and_one_above_it(self):
        self.assertEqual(loads(Net([0, 3, 4], [0], [(0, 1, 7), (1, 2, 4)]), [0, 1]), {0: 7, 1: 4})
        error = refused(self, BadState, loads, Net([0, 3, 4], [0], [(0, 1, 6), (1, 2, 4)]), [0, 1])
        self.assertEqual((error.why, error.shown), ("over", [0]))
        error = refused(self, BadState, lit, Net([0, 3, 4], [0], [(0, 1, 7), (1, 2, 3)]), [0, 1])
        self.assertEqual((error.why, error.shown), ("over", [1]))

    def test_a_dark_line_bears_nothing_whatever_its_limit(self):
        net = Net([MOST, MOST, MOST], [2], [(0, 1, 0)])
        self.assertEqual((lit(net, [0]), loads(net, [0])), ([2], {0: 0}))


class BadStates(unittest.TestCase):
    def refusals(self, net, closed):
        """The word and the lines that both functions refuse with."""
        first = refused(self, BadState, lit, net, list(closed))
        second = refused(self, BadState, loads, net, list(closed))
        self.assertEqual((first.why, first.shown), (second.why, second.shown))
        return first.why, first.shown

    def test_ring(self):
        net = Net([0] * 5, [4], [(0, 1, 9), (3, 2, 9), (1, 2, 9), (3, 0, 9), (4, 0, 9)])
        why, shown = self.refusals(net, [4, 3, 2, 1, 0])
        self.assertEqual((why, sorted(shown)), ("ring", [0, 1, 2, 3]))
        self.assertTrue(is_ring(net, shown))
        self.assertEqual(lit(net, [0, 1, 2, 4]), [0, 1, 2, 3, 4])

    def test_a_ring_in_the_dark(self):
        net = Net([0] * 4, [0], [(1, 2, 9), (2, 3, 9), (3, 1, 9)])
        why, shown = self.refusals(net, [0, 1, 2])
        self.assertEqual((why, sorted(shown)), ("ring", [0, 1, 2]))
        self.assertEqual(self.refusals(Net([0] * 4, [], net.lines()), [2, 1, 0])[0], "ring")

    def test_two_lines_between_the_same_places_are_a_ring(self):
        for lines in ([(0, 1, 9), (0, 1, 9)], [(0, 1, 9), (1, 0, 9)]):
            why, shown = self.refusals(Net([0, 0], [0], lines), [1, 0])
            self.assertEqual((why, sorted(shown)), ("ring", [0, 1]))

    def test_a_ring_has_only_its_own_lines(self):
        net = Net([0] * 6, [], [(0, 1, 9), (1, 2, 9), (2, 3, 9), (3, 1, 9), (3, 4, 9), (4, 5, 9)])
        why, shown = self.refusals(net, list(range(6)))
        self.assertEqual((why, sorted(shown)), ("ring", [1, 2, 3]))

    def test_a_ring_of_ten(self):
        net = Net([0] * 10, [], [(at, (at + 1) % 10, 9) for at in (0, 5, 1, 6, 2, 7, 3, 8, 4, 9)])
        why, shown = self.refusals(net, list(range(10)))
        self.assertEqual((why, len(shown)), ("ring", 10))
        self.assertTrue(is_ring(net, shown))

    def test_sources(self):
        net = Net([0] * 5, [4, 0], [(0, 1, 9), (3, 4, 9), (2, 1, 9), (3, 2, 9)])
        why, shown = self.refusals(net, [3, 2, 1, 0])
        self.assertEqual(why, "sources")
        self.assertIn(shown, ([0, 2, 3, 1], [1, 3, 2, 0]))
        self.assertEqual(lit(net, [0, 1, 2]), [0, 1, 2, 3, 4])

    def test_sources_side_by_side(self):
        self.assertEqual(self.refusals(Net([0, 0], [0, 1], [(0, 1, 9)]), [0]), ("sources", [0]))

    def test_the_way_between_sources_has_only_its_own_lines(self):
        net = Net([0] * 6, [1, 3], [(0, 1, 9), (1, 2, 9), (2, 3, 9), (3, 4, 9), (2, 5, 9)])
        why, shown = self.refusals(net, [0, 1, 2, 3, 4])
        self.assertEqual((why, sorted(shown)), ("sources", [1, 2]))

    def test_three_sources_on_a_row(self):
        net = Net([0] * 5, [0, 2, 4], [(at, at + 1, 9) for at in range(4)])
        why, shown = self.refusals(net, [0, 1, 2, 3])
        self.assertEqual(why, "sources")
        self.assertIn(sorted(shown), ([0, 1], [2, 3]))

    def test_over_tells_all_lines_rising(self):
        net = Net([0, 5, 5, 5], [0], [(2, 3, 4), (0, 1, 15), (1, 2, 9)])
        self.assertEqual(self.refusals(net, [2, 0, 1]), ("over", [0, 2]))
        net = Net([0, 5, 5, 5], [0], [(2, 3, 5), (0, 1, 14), (1, 2, 10)])
        self.assertEqual(self.refusals(net, [2, 1, 0]), ("over", [1]))

    def test_over_at_several_sources(self):
        net = Net([0, 1, 0, 1], [0, 2], [(2, 3, 0), (0, 1, 0)])
        self.assertEqual(self.refusals(net, [1, 0]), ("over", [0, 1]))

    def test_ring_ahead_of_sources(self):
        net = Net([0] * 4, [0, 1], [(0, 1, 9), (2, 3, 9), (2, 3, 9)])
        why, shown = self.refusals(net, [0, 1, 2])
        self.assertEqual((why, sorted(shown)), ("ring", [1, 2]))
        self.assertEqual(self.refusals(Net([0, 0], [0, 1], [(0, 1, 9), (0, 1, 9)]), [0, 1])[0], "ring")

    def test_ring_ahead_of_over(self):
        net = Net([0, 5, 0, 0], [0], [(0, 1, 4), (2, 3, 9), (2, 3, 9)])
        self.assertEqual(self.refusals(net, [0, 1, 2])[0], "ring")
        self.assertEqual(self.refusals(net, [0, 1]), ("over", [0]))

    def test_sources_ahead_of_over(self):
        net = Net([0, 5, 0, 0], [0, 2, 3], [(0, 1, 4), (2, 3, 9)])
        self.assertEqual(self.refusals(net, [0, 1]), ("sources", [1]))
        self.assertEqual(self.refusals(net, [0]), ("over", [0]))

    def test_bad_deed_ahead_of_all(self):
        net = Net([0, 5, 0], [0, 2], [(0, 1, 4), (0, 1, 4), (1, 2, 9)])
        for closed in ([3], [-1], [0, 0], [0, 1, 3], [2, 0, 2], [0, 1, -3]):
            refused(self, BadDeed, lit, net, closed)
            refused(self, BadDeed, loads, net, closed)

    def test_bad_deed_for_broken_lines(self):
        net = Net([0, 5, 0], [0], [(0, 1, 4), (0, 1, 4), (1, 2, 9)])
        for closed, broken in (([], [3]), ([], [-1]), ([], [1, 1]), ([2], [2]), ([0, 1], [2, 0])):
            refused(self, BadDeed, check_state, net, closed, broken)
        self.assertEqual(refused(self, BadState, check_state, net, [0], [1, 2]).why, "over")
        self.assertIsNone(check_state(net, [2], [1, 0]))


class ManyStates(unittest.TestCase):
    """All sets of closed lines of many small nets, beside a slow and plain reckoning."""

    def check_good(self, net, needs, closed):
        self.assertEqual(lit(net, closed), [place for place in net.places() if has_way(net, closed, place)])
        self.assertEqual(loads(net, closed), slow_loads(net, needs, closed))

    def check_bad(self, net, closed, why):
        error = refused(self, BadState, lit, net, closed)
        self.assertEqual(error.why, why)
        self.assertIs(type(error.shown), list)
        self.assertTrue(set(error.shown) <= set(closed))
        if why == "ring":
            self.assertTrue(is_ring(net, error.shown))
        elif why == "sources":
            self.assertTrue(any(is_way(net, error.shown, [start], end)
                                for end in net.sources() for start in net.sources() if end != start))
        else:
            self.assertEqual(error.shown, slow_over(net, closed))
        again = refused(self, BadState, loads, net, closed)
        self.assertEqual((again.why, again.shown), (error.why, error.shown))

    def test_many_states(self):
        met = {}
        for seed in range(200):
            needs, sources, lines = made_net(seed, most_lines=6, most_sources=3)
            net = Net(needs, sources, lines)
            for many in range(len(lines) + 1):
                for taken in combinations(reversed(range(len(lines))), many):
                    why = slow_fault(net, taken)
                    met[why] = met.get(why, 0) + 1
                    if why is None:
                        self.check_good(net, needs, list(taken))
                    else:
                        self.check_bad(net, list(taken), why)
        self.assertTrue(all(met.get(why, 0) > 50 for why in (None, "ring", "sources", "over")), met)


if __name__ == "__main__":
    unittest.main()
