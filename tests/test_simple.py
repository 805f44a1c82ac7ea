"""Point 7: plans with the fewest steps that have the same effect."""

import unittest

from chaircarry.effects import summary
from chaircarry.errors import InvalidNumber, TooFewChairs
from chaircarry.plans import Plan
from chaircarry.simple import simple_plan
from tests.simulation import fixed_source, outcome, random_plan

TURN = ("turn",)
MOST = 10 ** 18


def effect(plan, chairs):
    """Return what a plan carries and leaves in the red room for each start, and whether it turns."""
    return tuple(outcome(plan, chairs, start) for start in range(chairs + 1)), plan.steps.count(TURN) % 2 == 1


def followed(effect_before, step, chairs):
    """Return the effect of a plan with one step more."""
    outcomes, turned = effect_before
    if step == TURN:
        return tuple((carried, chairs - red) for carried, red in outcomes), not turned
    moved = []
    for carried, red in outcomes:
        there = red if step[0] == "red" else chairs - red
        missing = max(0, step[1] - there)
        moved.append((carried + missing, red + missing if step[0] == "red" else red - missing))
    return tuple(moved), turned


def shortest_plans(chairs, most):
    """Return, for the effects of all plans with up to so many steps, the first plan that a search by length finds."""
    steps = [TURN] + [(room, need) for room in ("red", "blue") for need in range(chairs + 1)]
    found = {effect(Plan(), chairs): ()}
    newest = dict(found)
    for many in range(most):
        longer = {}
        for before, chosen in newest.items():
            for step in steps:
                after = followed(before, step, chairs)
                if after not in found:
                    found[after] = longer[after] = (*chosen, step)
        newest = longer
    return found


class SimplePlans(unittest.TestCase):
    def assert_same_effect(self, plan, simple, chairs):
        self.assertIsInstance(simple, Plan)
        self.assertEqual(effect(simple, chairs), effect(plan, chairs))

    def test_search_through_all_plans_in_houses_with_up_to_4_chairs(self):
        for chairs in range(5):
            for steps in shortest_plans(chairs, 9).values():
                with self.subTest(steps=steps, chairs=chairs):
                    simple = simple_plan(Plan(*steps), chairs)
                    self.assert_same_effect(Plan(*steps), simple, chairs)
                    self.assertEqual(len(simple.steps), len(steps))

    def test_random_plans_in_houses_with_up_to_4_chairs(self):
        source = fixed_source(70)
        for chairs in range(5):
            shortest = shortest_plans(chairs, 9)
            for number in range(400):
                plan = random_plan(source, chairs, 9)
                with self.subTest(steps=plan.steps, chairs=chairs):
                    simple = simple_plan(plan, chairs)
                    self.assert_same_effect(plan, simple, chairs)
                    self.assertEqual(len(simple.steps), len(shortest[effect(plan, chairs)]))

    def test_plans_of_60_steps_in_small_houses(self):
        source = fixed_source(71)
        for number in range(150):
            chairs = source.randint(1, 12)
            plan = random_plan(source, chairs, 60, 50)
            with self.subTest(steps=plan.steps, chairs=chairs):
                self.assert_shorter(plan, simple_plan(plan, chairs), chairs)
                self.assert_same_effect(plan, simple_plan(plan, chairs), chairs)
        for chairs in (1, 2, 5):
            longest = Plan(*[("red", chairs), ("blue", chairs)] * 30)
            self.assertEqual(len(simple_plan(longest, chairs).steps), 60)
            self.assert_same_effect(longest, simple_plan(longest, chairs), chairs)
            turning = Plan(*[("red", chairs), TURN] * 30)
            self.assertEqual(len(simple_plan(turning, chairs).steps), 30)
            turning = Plan(*[("red", chairs), TURN] * 29)
            self.assertEqual(len(simple_plan(turning, chairs).steps), 30)
            self.assert_same_effect(turning, simple_plan(turning, chairs), chairs)

    def assert_shorter(self, plan, simple, chairs):
        self.assertLessEqual(len(simple.steps), len(plan.steps))
        self.assertEqual(len(simple_plan(simple, chairs).steps), len(simple.steps))
        self.assertIs(simple.is_turning, plan.is_turning)
        self.assertEqual(summary(simple, chairs), summary(plan, chairs))

    def test_large_houses(self):
        source = fixed_source(72)
        for number in range(1500):
            chairs = source.choice([MOST, MOST - 1, source.randint(1000, MOST)])
            plan = random_plan(source, chairs, source.choice([4, 12, 60]))
            simple = simple_plan(plan, chairs)
            low, high = summary(plan, chairs)[:2]
            starts = [start + by for start in (low, high, 0, chairs) for by in (-1, 0, 1) if 0 <= start + by <= chairs]
            starts += [source.randint(0, chairs) for more in range(6)]
            with self.subTest(steps=plan.steps, chairs=chairs):
                self.assert_shorter(plan, simple, chairs)
                for start in starts:
                    self.assertEqual(outcome(simple, chairs, start), outcome(plan, chairs, start))

    def test_large_houses_have_as_many_steps_as_small_ones(self):
        # All numbers of a small house, many times as large, are those of a large one.
        source = fixed_source(73)
        shortest = {chairs: shortest_plans(chairs, 9) for chairs in range(1, 5)}
        for number in range(400):
            chairs = source.randint(1, 4)
            plan = random_plan(source, chairs, 9)
            by = 10 ** 17
            large = Plan(*[step if step == TURN else (step[0], step[1] * by) for step in plan.steps])
            with self.subTest(steps=plan.steps, chairs=chairs):
                found = len(simple_plan(large, chairs * by).steps)
                self.assertEqual(found, len(shortest[chairs][effect(plan, chairs)]))

    def test_known_simple_plans(self):
        def steps_of(*steps, chairs=10):
            return simple_plan(Plan(*steps), chairs).steps

        self.assertEqual(steps_of(), ())
        self.assertEqual(steps_of(TURN), (TURN,))
        self.assertEqual(steps_of(TURN, TURN), ())
        self.assertEqual(steps_of(("red", 0), ("blue", 0)), ())
        self.assertEqual(steps_of(("red", 4), ("red", 6), ("red", 5)), (("red", 6),))
        self.assertEqual(steps_of(TURN, ("red", 6), TURN), (("blue", 6),))
        self.assertEqual(steps_of(("red", 10), ("red", 3)), (("red", 10),))
        self.assertEqual(steps_of(("red", 0), TURN, chairs=0), (TURN,))
        self.assertEqual(steps_of(("red", 0), chairs=0), ())
        # One meeting for all chairs leaves no choice; two meetings that share all chairs do neither.
        self.assertEqual(steps_of(("blue", 4), ("blue", 10), ("red", 0)), (("blue", 10),))
        self.assertEqual(len(steps_of(("red", 6), ("blue", 4), ("red", 6), ("blue", 4))), 2)
        # From 6 to 3, 5 and 4 is as far as from 6 to 2 and 4.
        self.assertEqual(len(steps_of(("red", 6), ("blue", 7), ("red", 5), ("blue", 6))), 3)

    def test_errors(self):
        for chairs in (-1, MOST + 1, True):
            with self.assertRaises(InvalidNumber):
                simple_plan(Plan(("red", MOST)), chairs)
        with self.assertRaises(TooFewChairs) as caught:
            simple_plan(Plan(("red", 6), TURN, ("blue", 7)), 6)
        self.assertEqual(caught.exception.index, 2)


if __name__ == "__main__":
    unittest.main()
