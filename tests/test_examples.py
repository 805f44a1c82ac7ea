"""The examples that the document's interface gives."""

import unittest

from chaircarry.chairs import best_chairs, fewest_chairs, long_run, saving, sparing_chairs
from chaircarry.effects import carryings, first_difference, red_chairs, summary, total_carried
from chaircarry.errors import Contradiction, InvalidEvidence, InvalidPlan, TooFewChairs
from chaircarry.evidence import find_evidence, judge_evidence
from chaircarry.observers import StartObserver
from chaircarry.plans import Plan
from chaircarry.simple import simple_plan


class PlanExamples(unittest.TestCase):
    def test_steps_and_is_turning(self):
        plan = Plan(("red", 6), ("turn",), ("red", 7))
        self.assertEqual([plan.steps, plan.is_turning], [(("red", 6), ("turn",), ("red", 7)), True])

    def test_wrong_room(self):
        with self.assertRaises(InvalidPlan) as caught:
            Plan(("red", 6), ("green", 7))
        self.assertEqual(caught.exception.index, 1)

    def test_alternating_and_joined(self):
        steps = Plan.alternating(6, 7).joined(Plan(("turn",))).steps
        self.assertEqual(steps, (("red", 6), ("blue", 7), ("turn",)))


class EffectExamples(unittest.TestCase):
    def setUp(self):
        self.plan = Plan(("red", 6), ("blue", 7))

    def test_total_carried_and_red_chairs(self):
        self.assertEqual(total_carried(self.plan, 10, 8, 1), 5)
        self.assertEqual(total_carried(self.plan, 10, 8, 10 ** 18), 5999999999999999999)
        self.assertEqual(red_chairs(self.plan, 10, 8, 1), 3)

    def test_too_few_chairs(self):
        with self.assertRaises(TooFewChairs) as caught:
            total_carried(self.plan, 6, 8, 1)
        self.assertEqual(caught.exception.index, 1)

    def test_carryings(self):
        self.assertEqual(list(carryings(self.plan, 10, 8, 1, 4)), [0, 5, 3, 3])
        self.assertEqual(list(carryings(self.plan, 10, 8, 10 ** 18 - 1, 10 ** 18)), [3, 3])

    def test_summary(self):
        self.assertEqual(summary(self.plan, 10), (6, 6, 3, 3, False))
        self.assertEqual(summary(Plan(("red", 6), ("turn",)), 10), (6, 10, 0, None, True))

    def test_first_difference(self):
        plan = Plan(("red", 6))
        self.assertEqual(first_difference(plan, Plan(("red", 6), ("blue", 2)), 10), 9)
        self.assertIsNone(first_difference(plan, plan, 10))


class EvidenceExamples(unittest.TestCase):
    def setUp(self):
        self.plan = Plan(("red", 6), ("blue", 7))

    def test_find_and_judge(self):
        plan = self.plan
        found = [find_evidence(plan, 10, 0), judge_evidence(plan, 10, 0, [0, 1]), find_evidence(plan, 10, 8)]
        self.assertEqual(found, [[0, 1], 9, [1]])

    def test_wrong_order(self):
        with self.assertRaises(InvalidEvidence) as caught:
            judge_evidence(self.plan, 10, 0, [1, 0])
        self.assertEqual(caught.exception.index, 1)


class SimpleExamples(unittest.TestCase):
    def test_simple_plan(self):
        plan = Plan(("red", 4), ("red", 6), ("blue", 2), ("blue", 7))
        self.assertEqual(len(simple_plan(plan, 10).steps), 2)


class ChairsExamples(unittest.TestCase):
    def setUp(self):
        self.plan, self.turning = Plan(("red", 6), ("blue", 7)), Plan(("red", 6), ("turn",))

    def test_long_run_and_saving(self):
        found = [long_run(self.plan, 10), saving(self.plan, 10), long_run(self.turning, 10)]
        self.assertEqual(found, [(6, 1), (2, 1), (2, 1)])

    def test_fewest_and_sparing_chairs(self):
        found = [fewest_chairs(self.plan), sparing_chairs(self.plan), sparing_chairs(self.turning)]
        self.assertEqual(found, [7, 13, 12])

    def test_best_chairs(self):
        self.assertEqual([best_chairs(self.plan, 100, 1, 60), best_chairs(self.plan, 130, 1, 60)], [13, 7])


class ObserverExamples(unittest.TestCase):
    def test_what_is_seen(self):
        observer = StartObserver(Plan(("red", 6), ("blue", 7)), 10)
        found = [observer.see(1, 0), observer.possible_starts, observer.see(2, 5), observer.possible_starts]
        self.assertEqual(found, [5, (6, 10), 1, (8, 8)])

    def test_contradiction(self):
        with self.assertRaises(Contradiction):
            StartObserver(Plan(("red", 6), ("blue", 7)), 10).see(4, 2)


if __name__ == "__main__":
    unittest.main()
