import unittest

from cuelight.errors import BadNet
from cuelight.nets import Net
from tests.helpers import MOST, told_net


class Nets(unittest.TestCase):
    def parts(self, needs, sources, lines):
        net = Net(needs, sources, lines)
        return net.places(), net.sources(), net.lines()

    def test_an_ordinary_net(self):
        lines = [(2, 0, 5), (1, 2, 0)]
        self.assertEqual(self.parts([4, 0, 7], [2, 0], lines), ([0, 1, 2], [0, 2], [(2, 0, 5), (1, 2, 0)]))

    def test_sources_rise_however_they_are_told(self):
        self.assertEqual(Net([1] * 10, [9, 0, 5, 3], []).sources(), [0, 3, 5, 9])

    def test_lines_are_told_as_handed_in(self):
        lines = [(3, 1, 9), (0, 2, 1), (1, 3, 2), (2, 0, 1)]
        self.assertEqual(Net([1, 1, 1, 1], [], lines).lines(), lines)
        self.assertTrue(all(type(line) is tuple for line in Net([1, 1, 1, 1], [], lines).lines()))

    def test_keywords(self):
        net = Net(needs=[1, 2], sources=[1], lines=[(0, 1, 3)])
        self.assertEqual((net.places(), net.sources(), net.lines()), ([0, 1], [1], [(0, 1, 3)]))

    def test_needs_by_places(self):
        self.assertEqual(Net([4, 0, MOST], [], []).needs(), [4, 0, MOST])

    def test_one_place_and_ten(self):
        self.assertEqual(self.parts([3], [], []), ([0], [], []))
        self.assertEqual(self.parts([3], [0], []), ([0], [0], []))
        self.assertEqual(self.parts([0] * 10, [], []), (list(range(10)), [], []))

    def test_all_places_sources(self):
        self.assertEqual(Net([1, 1, 1], [1, 2, 0], []).sources(), [0, 1, 2])
        self.assertEqual(Net([1] * 10, list(range(10)), []).sources(), list(range(10)))

    def test_ten_lines_between_the_same_places(self):
        lines = [(0, 1, limit) for limit in range(5)] + [(1, 0, 4)] * 5
        self.assertEqual(Net([1, 1], [0], lines).lines(), lines)

    def test_least_and_most_needs_and_limits(self):
        lines = [(0, 1, 0), (0, 1, MOST)]
        self.assertEqual(self.parts([0, MOST], [0], lines), ([0, 1], [0], lines))

    def test_first_and_last_place_on_a_line(self):
        self.assertEqual(Net([1] * 10, [], [(0, 9, 1), (9, 0, 1)]).lines(), [(0, 9, 1), (9, 0, 1)])


class BadNets(unittest.TestCase):
    def refusal(self, needs, sources, lines):
        return told_net(self, BadNet, needs, sources, lines)

    def test_many(self):
        self.assertEqual(self.refusal([], [], []), (0, "many"))
        self.assertEqual(self.refusal([1] * 11, [], []), (0, "many"))
        self.assertEqual(self.refusal([1] * 40, [], []), (0, "many"))

    def test_need(self):
        self.assertEqual(self.refusal([-1], [], []), (0, "need"))
        self.assertEqual(self.refusal([0, 1, MOST + 1], [], []), (2, "need"))
        self.assertEqual(self.refusal([0, -1, MOST + 1, -5], [], []), (1, "need"))
        self.assertEqual(self.refusal([0] * 9 + [-1], [], []), (9, "need"))

    def test_the_need_of_a_source_is_a_need(self):
        self.assertEqual(self.refusal([0, MOST + 1], [1], []), (1, "need"))

    def test_source(self):
        self.assertEqual(self.refusal([1, 1, 1], [3], []), (0, "source"))
        self.assertEqual(self.refusal([1, 1, 1], [2, -1], []), (1, "source"))
        self.assertEqual(self.refusal([1, 1, 1], [2, 0, 7, 9], []), (2, "source"))

    def test_source_twice(self):
        self.assertEqual(self.refusal([1, 1, 1], [2, 2], []), (1, "source"))
        self.assertEqual(self.refusal([1, 1, 1], [2, 0, 1, 2], []), (3, "source"))
        self.assertEqual(self.refusal([1, 1, 1], [1, 0, 1, 9], []), (2, "source"))
        self.assertEqual(self.refusal([1, 1, 1], [1, 0, 9, 1], []), (2, "source"))

    def test_lines(self):
        self.assertEqual(self.refusal([1, 1], [], [(0, 1, 1)] * 11), (0, "lines"))
        self.assertEqual(self.refusal([1, 1], [], [(0, 1, 1)] * 30), (0, "lines"))

    def test_place_of_a_line(self):
        for line in ((0, 3, 1), (3, 0, 1), (-1, 0, 1), (0, -1, 1), (1, 1, 1), (10, 11, 1), (5, 5, 1)):
            self.assertEqual(self.refusal([1, 1, 1], [], [line]), (0, "place"))
            self.assertEqual(self.refusal([1, 1, 1], [], [(0, 1, 1), (1, 2, 1), line]), (2, "place"))

    def test_a_line_where_there_is_one_place(self):
        self.assertEqual(self.refusal([1], [0], [(0, 0, 1)]), (0, "place"))
        self.assertEqual(self.refusal([1], [0], [(0, 1, 1)]), (0, "place"))

    def test_limit_of_a_line(self):
        for limit in (-1, MOST + 1):
            self.assertEqual(self.refusal([1, 1, 1], [], [(0, 1, limit)]), (0, "limit"))
            self.assertEqual(self.refusal([1, 1, 1], [], [(0, 1, 1)] * 9 + [(0, 1, limit)]), (9, "limit"))

    def test_the_first_bad_line_is_told(self):
        self.assertEqual(self.refusal([1, 1], [], [(0, 1, 1), (0, 1, -1), (0, 0, 1)]), (1, "limit"))
        self.assertEqual(self.refusal([1, 1], [], [(0, 1, 1), (0, 0, 1), (0, 1, -1)]), (1, "place"))

    def test_place_ahead_of_limit_in_one_line(self):
        self.assertEqual(self.refusal([1, 1], [], [(0, 2, -1)]), (0, "place"))
        self.assertEqual(self.refusal([1, 1], [], [(1, 1, MOST + 1)]), (0, "place"))

    def test_of_two_wrong_things_the_first_is_told(self):
        needs, sources, lines, line = [1, -1], [0, 5], [(0, 1, 1)] * 11, [(0, 1, -1)]
        many = [1] * 10 + [-1]
        self.assertEqual(self.refusal(many, [], []), (0, "many"))
        self.assertEqual(self.refusal([1] * 11, [20], []), (0, "many"))
        self.assertEqual(self.refusal([], [0], []), (0, "many"))
        self.assertEqual(self.refusal([1] * 11, [], lines), (0, "many"))
        self.assertEqual(self.refusal([1] * 11, [], line), (0, "many"))
        self.assertEqual(self.refusal(needs, sources, []), (1, "need"))
        self.assertEqual(self.refusal(needs, [], lines), (1, "need"))
        self.assertEqual(self.refusal(needs, [], line), (1, "need"))
        self.assertEqual(self.refusal([1, 1], sources, lines), (1, "source"))
        self.assertEqual(self.refusal([1, 1], sources, line), (1, "source"))
        self.assertEqual(self.refusal([1, 1], [0, 0], line), (1, "source"))
        self.assertEqual(self.refusal([1, 1], [], lines[:10] + line), (0, "lines"))
        self.assertEqual(self.refusal([1, 1], [], [(0, 0, 1)] * 11), (0, "lines"))


if __name__ == "__main__":
    unittest.main()
