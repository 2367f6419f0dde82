import unittest
from itertools import combinations

from cuelight.best import best
from cuelight.nets import Net
from cuelight.states import lit
from tests.helpers import MOST, made_net
from tests.slow_plans import slow_best


class Best(unittest.TestCase):
    def test_all_can_be_lit(self):
        net = Net([0, 3, 5], [0], [(0, 1, 8), (1, 2, 5)])
        answer = best(net, [])
        self.assertEqual(answer, (3, [0, 1]))
        self.assertIs(type(answer), tuple)
        self.assertIs(type(answer[1]), list)

    def test_sources_are_lit(self):
        self.assertEqual(best(Net([0, 0, 0], [2, 0], []), []), (2, []))
        self.assertEqual(best(Net([0, 0, 0], [2, 0], [(0, 1, 0)]), []), (3, [0]))

    def test_nothing_to_close(self):
        self.assertEqual(best(Net([5], [], []), []), (0, []))
        self.assertEqual(best(Net([5], [0], []), []), (1, []))
        self.assertEqual(best(Net([5, 5], [0, 1], [(0, 1, 9)]), []), (2, []))
        self.assertEqual(best(Net([5] * 4, [0], [(1, 2, 9), (2, 3, 9)]), []), (1, []))

    def test_no_source(self):
        self.assertEqual(best(Net([0] * 3, [], [(0, 1, 9), (1, 2, 9)]), []), (0, []))

    def test_lines_in_the_dark_stay_open(self):
        self.assertEqual(best(Net([0] * 4, [0], [(2, 3, 9), (0, 1, 9)]), []), (2, [1]))

    def test_lines_side_by_side(self):
        self.assertEqual(best(Net([0, 7], [0], [(0, 1, 6), (1, 0, 7), (0, 1, 9)]), []), (2, [1]))
        self.assertEqual(best(Net([0, 7], [0], [(0, 1, 6)] * 10), []), (1, []))
        self.assertEqual(best(Net([0, 7], [0], [(0, 1, 9)] * 10), []), (2, [0]))

    def test_limits_of_0(self):
        self.assertEqual(best(Net([9, 1], [0], [(0, 1, 0)]), []), (1, []))
        self.assertEqual(best(Net([9, 0, 1], [0], [(0, 1, 0), (1, 2, 5)]), []), (2, [0]))
        self.assertEqual(best(Net([0] * 3, [0], [(0, 1, 0), (1, 2, 0)]), []), (3, [0, 1]))

    def test_limits_bar_some_places(self):
        # Either of 1 and 2 and 3 fits over line 0, but no two; 4 has a line of its own.
        net = Net([0, 0, 4, 4, 4], [0], [(0, 1, 4), (1, 2, 9), (1, 3, 9), (0, 4, 4)])
        self.assertEqual(best(net, []), (4, [0, 1, 3]))

    def test_broken_lines_are_not_closed(self):
        net = Net([0, 3, 5], [0], [(0, 1, 8), (1, 2, 5), (0, 2, 7)])
        self.assertEqual(best(net, []), (3, [0, 1]))
        self.assertEqual(best(net, [1]), (3, [0, 2]))
        self.assertEqual(best(net, [0]), (2, [2]))
        self.assertEqual(best(net, [2, 0]), (1, []))
        self.assertEqual(best(net, [2, 1, 0]), (1, []))

    def test_rings_and_joined_sources_do_not_count(self):
        ring = Net([0] * 4, [0], [(0, 1, 9), (1, 2, 9), (2, 0, 9), (2, 3, 9)])
        self.assertEqual(best(ring, []), (4, [0, 1, 3]))
        row = Net([0, 1, 1, 0], [0, 3], [(0, 1, 9), (1, 2, 9), (2, 3, 9)])
        self.assertEqual(best(row, []), (4, [0, 1]))

    def test_the_first_as_lists_ascend(self):
        net = Net([0, 5, 5], [0], [(0, 2, 5), (1, 2, 9), (0, 1, 5)])
        self.assertEqual(best(net, []), (3, [0, 2]))
        net = Net([0, 5, 5, 5], [0], [(0, 1, 5), (0, 2, 5), (0, 3, 9), (1, 2, 9)])
        self.assertEqual(best(net, []), (4, [0, 1, 2]))

    def test_more_places_ahead_of_fewer_lines(self):
        net = Net([0, 9, 1, 1], [0], [(0, 1, 9), (0, 2, 9), (2, 3, 9)])
        self.assertEqual(best(net, [1]), (2, [0]))
        self.assertEqual(best(net, []), (4, [0, 1, 2]))

    def test_ten_places_and_ten_lines(self):
        net = Net([1] * 10, [9], [(at, (at + 1) % 10, 5) for at in range(10)])
        number, closed = best(net, [])
        self.assertEqual((number, closed), (10, [0, 1, 2, 3, 5, 6, 7, 8, 9]))
        heavy = Net([MOST] * 10, [0], [(at, at + 1, MOST) for at in range(9)])
        self.assertEqual(best(heavy, []), (2, [0]))

    def test_keywords(self):
        self.assertEqual(best(net=Net([0, 0], [0], [(0, 1, 0)]), broken=[]), (2, [0]))


class ManyBests(unittest.TestCase):
    def test_many_nets(self):
        counts = []
        for seed in range(120):
            net = Net(*made_net(seed, most_lines=6, most_sources=3))
            for many in range(3):
                for broken in combinations(reversed(range(len(net.lines()))), many):
                    answer = best(net, list(broken))
                    self.assertEqual(answer, slow_best(net, broken))
                    self.assertEqual(len(lit(net, answer[1])), answer[0])
                    counts.append(len(answer[1]))
        self.assertTrue(all(counts.count(many) > 20 for many in range(4)), counts)


if __name__ == "__main__":
    unittest.main()
