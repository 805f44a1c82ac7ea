"""Point 5: the effect of a plan on all starts, and the first start that tells two plans apart."""

import unittest

from chaircarry.effects import first_difference, summary
from chaircarry.errors import InvalidNumber, TooFewChairs
from chaircarry.plans import Plan
from tests.simulation import all_plans, end_at_first_place, fixed_source, outcome, random_plan

TURN = ("turn",)
MOST = 10 ** 18


def smallest_difference(plan, other, chairs):
    for start in range(chairs + 1):
        if outcome(plan, chairs, start) != outcome(other, chairs, start):
            return start
    return None


class Summary(unittest.TestCase):
    def assert_tells(self, plan, chairs, start, told):
        """Check what a summary tells of one start."""
        low, high, extra, goal, turned = told
        near = min(max(start, low), high)
        self.assertEqual(outcome(plan, chairs, start)[0], extra + abs(start - near))
        self.assertEqual(end_at_first_place(plan, chairs, start), near if goal is None else goal)

    def assert_tells_all(self, plan, chairs):
        with self.subTest(steps=plan.steps, chairs=chairs):
            told = summary(plan, chairs)
            self.assertIsInstance(told, tuple)
            low, high, extra, goal, turned = told
            costs = [outcome(plan, chairs, start)[0] for start in range(chairs + 1)]
            least = min(costs)
            cheap = [start for start in range(chairs + 1) if costs[start] == least]
            self.assertEqual((low, high, extra), (cheap[0], cheap[-1], least))
            for start in range(chairs + 1):
                self.assert_tells(plan, chairs, start, told)
            if low == high:
                self.assertIsNotNone(goal)
            else:
                self.assertIsNone(goal)
            self.assertIs(turned, plan.steps.count(TURN) % 2 == 1)

    def test_all_short_plans_in_small_houses(self):
        for chairs in range(4):
            for plan in all_plans(chairs, 3):
                self.assert_tells_all(plan, chairs)

    def test_random_plans_in_houses_with_up_to_12_chairs(self):
        source = fixed_source(20)
        for number in range(1500):
            chairs = source.randint(0, 12)
            self.assert_tells_all(random_plan(source, chairs), chairs)

    def test_long_plans(self):
        source = fixed_source(21)
        for number in range(40):
            self.assert_tells_all(random_plan(source, 12, 60, 30), 12)

    def test_single_starts_in_large_houses(self):
        source = fixed_source(22)
        for number in range(400):
            chairs = source.choice([MOST, source.randint(1000, MOST)])
            plan = random_plan(source, chairs)
            told = summary(plan, chairs)
            low, high, extra, goal, turned = told
            self.assertTrue(0 <= low <= high <= chairs)
            self.assertEqual(goal is None, low < high)
            self.assertIs(turned, plan.is_turning)
            starts = [0, chairs, low, high, max(0, low - 1), min(chairs, high + 1)]
            starts += [source.randint(0, chairs) for more in range(5)]
            with self.subTest(steps=plan.steps, chairs=chairs):
                for start in starts:
                    self.assert_tells(plan, chairs, start, told)

    def test_known_summaries(self):
        self.assertEqual(summary(Plan(), 10), (0, 10, 0, None, False))
        self.assertEqual(summary(Plan(), 0), (0, 0, 0, 0, False))
        self.assertEqual(summary(Plan(TURN), 0), (0, 0, 0, 0, True))
        self.assertEqual(summary(Plan(TURN), 10), (0, 10, 0, None, True))
        self.assertEqual(summary(Plan(("red", 6)), 10), (6, 10, 0, None, False))
        self.assertEqual(summary(Plan(("blue", 6)), 10), (0, 4, 0, None, False))
        self.assertEqual(summary(Plan(("red", 6), ("blue", 3)), 10), (6, 7, 0, None, False))
        self.assertEqual(summary(Plan(("red", 6), ("blue", 4)), 10), (6, 6, 0, 6, False))
        self.assertEqual(summary(Plan(("red", 10)), 10), (10, 10, 0, 10, False))
        self.assertEqual(summary(Plan(("blue", 10)), 10), (0, 0, 0, 0, False))
        self.assertEqual(summary(Plan(("blue", 7), ("red", 6)), 10), (3, 3, 3, 6, False))
        self.assertEqual(summary(Plan(("red", 6), TURN, ("red", 7)), 10), (6, 6, 3, 3, True))
        self.assertEqual(summary(Plan(TURN, ("red", 6), TURN), 10), (0, 4, 0, None, False))
        both = Plan(("red", MOST), ("blue", MOST))
        self.assertEqual(summary(both, MOST), (MOST, MOST, MOST, 0, False))

    def test_errors(self):
        with self.assertRaises(InvalidNumber):
            summary(Plan(), -1)
        with self.assertRaises(InvalidNumber):
            summary(Plan(("red", MOST)), MOST + 1)
        with self.assertRaises(TooFewChairs) as caught:
            summary(Plan(("red", 3), TURN, ("blue", 5)), 4)
        self.assertEqual(caught.exception.index, 2)


class FirstDifference(unittest.TestCase):
    def assert_smallest(self, plan, other, chairs):
        with self.subTest(steps=plan.steps, other=other.steps, chairs=chairs):
            expected = smallest_difference(plan, other, chairs)
            self.assertEqual(first_difference(plan, other, chairs), expected)
            self.assertEqual(first_difference(other, plan, chairs), expected)

    def test_all_pairs_of_short_plans_in_small_houses(self):
        for chairs in range(4):
            plans = list(all_plans(chairs, 2))
            outcomes = [[outcome(plan, chairs, start) for start in range(chairs + 1)] for plan in plans]
            for at, plan in enumerate(plans):
                for beside, other in enumerate(plans):
                    differing = [
                        start for start in range(chairs + 1) if outcomes[at][start] != outcomes[beside][start]
                    ]
                    expected = differing[0] if differing else None
                    self.assertEqual(first_difference(plan, other, chairs), expected, (plan.steps, other.steps))

    def test_random_pairs_in_houses_with_up_to_12_chairs(self):
        source = fixed_source(30)
        for number in range(1500):
            chairs = source.randint(0, 12)
            self.assert_smallest(random_plan(source, chairs), random_plan(source, chairs), chairs)

    def test_pairs_that_differ_little(self):
        source = fixed_source(31)
        for number in range(600):
            chairs = source.choice([12, 150])
            plan = random_plan(source, chairs)
            steps = list(plan.steps)
            for change in range(source.randint(0, 2)):
                more = random_plan(source, chairs, 1, 1).steps[0]
                steps.insert(source.randint(0, len(steps)), more)
            self.assert_smallest(plan, Plan(*steps), chairs)

    def test_large_houses(self):
        source = fixed_source(32)
        for number in range(300):
            plan = random_plan(source, MOST)
            steps = list(plan.steps)
            steps.insert(source.randint(0, len(steps)), random_plan(source, MOST, 1, 1).steps[0])
            other = Plan(*steps)
            found = first_difference(plan, other, MOST)
            end = MOST + 1 if found is None else found
            same = [start for start in (0, 1, end // 2, end - 2, end - 1) if 0 <= start < end]
            same += [source.randrange(end) for more in range(5) if end > 0]
            with self.subTest(steps=plan.steps, other=other.steps):
                for start in same:
                    self.assertEqual(outcome(plan, MOST, start), outcome(other, MOST, start))
                if found is not None:
                    self.assertNotEqual(outcome(plan, MOST, found), outcome(other, MOST, found))

    def test_known_differences(self):
        self.assertIsNone(first_difference(Plan(("red", 4), ("red", 6)), Plan(("red", 6)), 10))
        self.assertIsNone(first_difference(Plan(), Plan(TURN, TURN), 10))
        self.assertIsNone(first_difference(Plan(), Plan(TURN), 0))
        self.assertEqual(first_difference(Plan(), Plan(TURN), 10), 0)
        # These two carry the same for all starts, but do not always end alike.
        self.assertEqual(first_difference(Plan(("red", 2)), Plan(("red", 2), TURN), 4), 3)
        # The red rooms are compared, not the rooms that were red at first.
        self.assertIsNone(first_difference(Plan(("red", 5), ("blue", 5)), Plan(("red", 5), ("blue", 5), TURN), 10))
        self.assertEqual(first_difference(Plan(), Plan(("blue", 1)), MOST), MOST)
        self.assertEqual(first_difference(Plan(), Plan(("blue", MOST)), MOST), 1)
        self.assertEqual(first_difference(Plan(), Plan(("red", MOST)), MOST), 0)

    def test_errors_in_order(self):
        few, many = Plan(("red", 1), ("red", 7)), Plan(("red", 9))
        for chairs in (-1, MOST + 1, True):
            with self.assertRaises(InvalidNumber):
                first_difference(few, many, chairs)
        for plan, other, chairs, index in ((few, many, 6, 1), (few, many, 8, 0), (many, few, 6, 0), (Plan(), few, 6, 1)):
            with self.assertRaises(TooFewChairs) as caught:
                first_difference(plan, other, chairs)
            self.assertEqual(caught.exception.index, index)
        self.assertEqual(first_difference(few, many, 9), 0)


if __name__ == "__main__":
    unittest.main()
