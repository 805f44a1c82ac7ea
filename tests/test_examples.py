"""The examples that the document's interface gives."""

import unittest

from chaircarry.effects import carryings, first_difference, red_chairs, summary, total_carried
from chaircarry.errors import InvalidPlan, TooFewChairs
from chaircarry.plans import Plan


class PlanExamples(unittest.TestCase):
    def test_steps_and_is_turning(self):
        plan = Plan(("red", 6), ("turn",), ("red", 7))
        self.assertEqual([plan.steps, plan.is_turning], [(("red", 6), ("turn",), ("red", 7)), True])

    def test_wrong_room(self):
        with self.assertRaises(InvalidPlan) as caught:
            Plan(("red", 6), ("green", 7))
        self.assertEqual(caught.exception.index, 1)

    def test_alternating_and_joined(self):
        steps = Plan.alternating(6, 7).joined(Plan(("turn",))).steps
        self.assertEqual(steps, (("red", 6), ("blue", 7), ("turn",)))


class EffectExamples(unittest.TestCase):
    def setUp(self):
        self.plan = Plan(("red", 6), ("blue", 7))

    def test_total_carried_and_red_chairs(self):
        self.assertEqual(total_carried(self.plan, 10, 8, 1), 5)
        self.assertEqual(total_carried(self.plan, 10, 8, 10 ** 18), 5999999999999999999)
        self.assertEqual(red_chairs(self.plan, 10, 8, 1), 3)

    def test_too_few_chairs(self):
        with self.assertRaises(TooFewChairs) as caught:
            total_carried(self.plan, 6, 8, 1)
        self.assertEqual(caught.exception.index, 1)

    def test_carryings(self):
        self.assertEqual(list(carryings(self.plan, 10, 8, 1, 4)), [0, 5, 3, 3])
        self.assertEqual(list(carryings(self.plan, 10, 8, 10 ** 18 - 1, 10 ** 18)), [3, 3])

    def test_summary(self):
        self.assertEqual(summary(self.plan, 10), (6, 6, 3, 3, False))
        self.assertEqual(summary(Plan(("red", 6), ("turn",)), 10), (6, 10, 0, None, True))

    def test_first_difference(self):
        plan = Plan(("red", 6))
        self.assertEqual(first_difference(plan, Plan(("red", 6), ("blue", 2)), 10), 9)
        self.assertIsNone(first_difference(plan, plan, 10))


if __name__ == "__main__":
    unittest.main()
