import unittest
from itertools import combinations

from cuelight.cuts import keeps, parted, weak
from cuelight.errors import NoCut
from cuelight.nets import Net
from tests.helpers import MOST, fewest_to_part, has_way, is_way, made_net, refused, whole


class Cuts(unittest.TestCase):
    def check_parted(self, net, broken, place):
        """Check all that is promised of the answer, but for how many lines are the fewest."""
        answer = parted(net, broken, place)
        self.assertIs(type(answer), tuple)
        cut, ways = answer
        self.assertEqual(cut, sorted(set(cut)))
        self.assertEqual(len(cut), len(ways))
        left = whole(net, broken)
        self.assertTrue(set(cut) <= set(left))
        self.assertFalse(has_way(net, [line for line in left if line not in cut], place))
        used = [line for way in ways for line in way]
        self.assertEqual(len(used), len(set(used)))
        self.assertTrue(set(used) <= set(left))
        for way in ways:
            self.assertIs(type(way), list)
            self.assertTrue(is_way(net, way, net.sources(), place))
        return cut, ways


class Parted(Cuts):
    def test_one_way(self):
        net = Net([0] * 3, [0], [(2, 1, 0), (0, 1, 0)])
        cut, ways = self.check_parted(net, [], 2)
        self.assertEqual(ways, [[1, 0]])
        self.assertIn(cut, ([0], [1]))

    def test_the_narrow_line_is_found_wherever_it_is(self):
        near = Net([0] * 3, [0], [(1, 2, 0), (1, 2, 0), (0, 1, 0)])
        self.assertEqual(self.check_parted(near, [], 2)[0], [2])
        far = Net([0] * 3, [0], [(0, 1, 0), (0, 1, 0), (1, 2, 0)])
        self.assertEqual(self.check_parted(far, [], 2)[0], [2])

    def test_ways_lead_from_source_to_place(self):
        net = Net([0] * 5, [4], [(3, 2, 1), (0, 1, 1), (1, 2, 1), (4, 3, 1)])
        self.assertEqual(self.check_parted(net, [], 0)[1], [[3, 0, 2, 1]])

    def test_a_way_taken_back(self):
        # The shortest way 0-1-2-3 bars both others unless line 1 is given up again.
        lines = [(0, 1, 0), (1, 2, 0), (2, 3, 0), (0, 4, 0), (4, 5, 0), (5, 2, 0), (1, 6, 0), (6, 7, 0), (7, 3, 0)]
        net = Net([0] * 8, [0], lines)
        cut, ways = self.check_parted(net, [], 3)
        self.assertEqual(len(cut), 2)
        self.assertEqual(sorted(ways), [[0, 6, 7, 8], [3, 4, 5, 2]])

    def test_several_sources(self):
        net = Net([0] * 4, [0, 3], [(0, 1, 0), (3, 2, 0), (2, 1, 0)])
        cut, ways = self.check_parted(net, [], 1)
        self.assertEqual(sorted(ways), [[0], [1, 2]])
        self.assertEqual(len(cut), 2)

    def test_a_way_over_a_source_is_cut_behind_it(self):
        net = Net([0] * 3, [0, 1], [(0, 1, 0), (1, 2, 0)])
        self.assertEqual(parted(net, [], 2), ([1], [[1]]))

    def test_limits_and_needs_are_not_looked_at(self):
        net = Net([MOST, MOST], [0], [(0, 1, 0)])
        self.assertEqual(parted(net, [], 1), ([0], [[0]]))

    def test_ten_lines_between_the_same_places(self):
        net = Net([0, 0], [1], [(0, 1, 0), (1, 0, 0)] * 5)
        cut, ways = self.check_parted(net, [], 0)
        self.assertEqual(cut, list(range(10)))
        self.assertEqual(sorted(ways), [[line] for line in range(10)])
        cut, ways = self.check_parted(net, [9, 0, 4], 0)
        self.assertEqual(cut, [1, 2, 3, 5, 6, 7, 8])

    def test_ten_places_on_a_ring(self):
        net = Net([0] * 10, [0], [(at, (at + 1) % 10, 0) for at in range(10)])
        for place in range(1, 10):
            self.assertEqual(len(self.check_parted(net, [], place)[0]), 2)
        self.assertEqual(self.check_parted(net, [9], 9)[1], [[0, 1, 2, 3, 4, 5, 6, 7, 8]])

    def test_no_way_now(self):
        self.assertEqual(parted(Net([0], [], []), [], 0), ([], []))
        self.assertEqual(parted(Net([0, 0], [0], []), [], 1), ([], []))
        self.assertEqual(parted(Net([0, 0], [], [(0, 1, 0)]), [], 1), ([], []))
        self.assertEqual(parted(Net([0, 0], [0], [(0, 1, 0)]), [0], 1), ([], []))
        net = Net([0] * 4, [0], [(0, 1, 0), (1, 2, 0), (2, 3, 0)])
        self.assertEqual(parted(net, [1], 3), ([], []))
        self.assertEqual(parted(net, [0, 1, 2], 1), ([], []))

    def test_a_source_is_refused(self):
        net = Net([0] * 3, [2, 0], [(0, 1, 0), (1, 2, 0)])
        refused(self, NoCut, parted, net, [], 0)
        refused(self, NoCut, parted, net, [0], 2)
        refused(self, NoCut, parted, net, [1, 0], 2)
        refused(self, NoCut, parted, Net([0], [0], []), [], 0)

    def test_keywords(self):
        net = Net([0, 0], [0], [(0, 1, 0)])
        self.assertEqual(parted(net=net, broken=[], place=1), ([0], [[0]]))
        self.assertIs(keeps(net=net, broken=[]), True)
        self.assertEqual(weak(net=net, broken=[]), [0])


class KeepsAndWeak(unittest.TestCase):
    def test_keeps(self):
        net = Net([MOST] * 4, [0], [(0, 1, 0), (1, 2, 0), (2, 0, 0), (3, 2, 0)])
        self.assertIs(keeps(net, []), True)
        self.assertIs(keeps(net, [1]), True)
        self.assertIs(keeps(net, [3]), False)
        self.assertIs(keeps(net, [2, 1]), False)
        self.assertIs(keeps(net, [3, 2, 1, 0]), False)

    def test_keeps_at_the_edges(self):
        self.assertIs(keeps(Net([0], [], []), []), False)
        self.assertIs(keeps(Net([0], [0], []), []), True)
        self.assertIs(keeps(Net([0, 0], [], [(0, 1, 0)]), []), False)
        self.assertIs(keeps(Net([0, 0], [1, 0], [(0, 1, 0)]), [0]), True)
        self.assertIs(keeps(Net([0] * 10, list(range(10)), []), []), True)
        self.assertIs(keeps(Net([0] * 10, [4], [(at, at + 1, 0) for at in range(9)]), []), True)

    def test_each_source_keeps_its_own(self):
        net = Net([0] * 4, [0, 3], [(0, 1, 0), (1, 2, 0), (2, 3, 0)])
        self.assertIs(keeps(net, [1]), True)
        self.assertIs(keeps(net, [1, 2]), False)

    def test_weak(self):
        net = Net([0] * 4, [0], [(3, 2, 0), (0, 1, 0), (1, 2, 0), (2, 0, 0)])
        self.assertEqual(weak(net, []), [0])
        self.assertEqual(weak(net, [2]), [0, 1, 3])
        self.assertEqual(weak(net, [0]), [])
        self.assertEqual(weak(net, [3, 1]), [])

    def test_lines_in_the_dark_are_not_weak(self):
        net = Net([0] * 4, [0], [(0, 1, 0), (1, 2, 0), (2, 3, 0)])
        self.assertEqual(weak(net, []), [0, 1, 2])
        self.assertEqual(weak(net, [1]), [0])
        self.assertEqual(weak(net, [0]), [])

    def test_a_line_between_sources_is_not_weak(self):
        self.assertEqual(weak(Net([0, 0], [0, 1], [(0, 1, 0)]), []), [])
        net = Net([0] * 4, [0, 3], [(0, 1, 0), (1, 2, 0), (2, 3, 0)])
        self.assertEqual(weak(net, []), [])
        self.assertEqual(weak(net, [1]), [0, 2])

    def test_several_lines_between_the_same_places(self):
        net = Net([0, 0], [0], [(0, 1, 0)] * 10)
        self.assertEqual(weak(net, []), [])
        self.assertEqual(weak(net, [0, 1, 2, 3, 4, 6, 7, 8, 9]), [5])

    def test_weak_at_the_edges(self):
        self.assertEqual(weak(Net([0], [], []), []), [])
        self.assertEqual(weak(Net([0], [0], []), []), [])
        self.assertEqual(weak(Net([0, 0], [], [(0, 1, 0)]), []), [])


class ManyCuts(Cuts):
    """Many small nets with all sets of broken lines, beside a slow and plain reckoning."""

    def check_net(self, net, broken):
        left = whole(net, broken)
        fed = [place for place in net.places() if has_way(net, left, place)]
        self.assertIs(keeps(net, broken), fed == net.places())
        alone = [line for line in left
                 if not all(has_way(net, [other for other in left if other != line], place) for place in fed)]
        self.assertEqual(weak(net, broken), alone)
        for place in net.places():
            if place in net.sources():
                refused(self, NoCut, parted, net, broken, place)
            else:
                cut, _ = self.check_parted(net, broken, place)
                self.assertEqual(len(cut), fewest_to_part(net, broken, place))

    def test_many_nets(self):
        for seed in range(80):
            net = Net(*made_net(seed, most_lines=9, most_sources=3))
            for many in range(3):
                for broken in combinations(reversed(range(len(net.lines()))), many):
                    self.check_net(net, list(broken))


if __name__ == "__main__":
    unittest.main()
