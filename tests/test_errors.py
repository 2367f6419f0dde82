import unittest

from cuelight.errors import BadDeed, BadNet, BadState, BadText, LightError, NoCut, NoPlan

KINDS = [BadNet, BadState, BadDeed, NoCut, NoPlan, BadText]


class Errors(unittest.TestCase):
    def test_each_is_a_light_error_and_none_is_another(self):
        self.assertTrue(issubclass(LightError, ValueError))
        for kind in KINDS:
            self.assertTrue(issubclass(kind, LightError))
            for other in KINDS:
                self.assertEqual(issubclass(kind, other), kind is other)

    def test_fields(self):
        net = BadNet(3, "need")
        self.assertEqual((net.at, net.why), (3, "need"))
        state = BadState("ring", [2, 0, 1])
        self.assertEqual((state.why, state.shown), ("ring", [2, 0, 1]))
        plan = NoPlan([((0,), (1, 2), 0)])
        self.assertEqual(plan.states, [((0,), (1, 2), 0)])
        self.assertEqual(BadText(7).row, 7)

    def test_those_without_fields_take_a_text(self):
        for kind in (LightError, BadDeed, NoCut):
            self.assertEqual(str(kind("what is wrong")), "what is wrong")

    def test_lists_are_kept_as_copies(self):
        shown = [1, 2]
        error = BadState("over", shown)
        shown.append(3)
        self.assertEqual(error.shown, [1, 2])
        error.shown.append(4)
        self.assertEqual(shown, [1, 2, 3])
        states = [((), (), 0)]
        error = NoPlan(states)
        states.clear()
        self.assertEqual(error.states, [((), (), 0)])

    def test_nothing_handed_in_is_kept_elsewhere(self):
        shown = [1, 2]
        self.assertFalse(any(told is shown for told in BadState("over", shown).args))
        self.assertFalse(any(told is shown for told in NoPlan(shown).args))


if __name__ == "__main__":
    unittest.main()
