"""Points 2 and 3, over all functions that take plans and houses: which steps and numbers are wrong, and in what order."""

import inspect
import unittest

from chaircarry import chairs as chairs_module
from chaircarry import effects, evidence, observers, simple
from chaircarry.chairs import best_chairs, fewest_chairs, long_run, saving, sparing_chairs
from chaircarry.effects import carryings, first_difference, red_chairs, summary, total_carried
from chaircarry.errors import InvalidEvidence, InvalidNumber, InvalidPlan, TooFewChairs
from chaircarry.evidence import find_evidence, judge_evidence
from chaircarry.observers import StartObserver
from chaircarry.plans import Plan
from chaircarry.simple import simple_plan
from tests.simulation import fixed_source, random_step

TURN = ("turn",)
MOST = 10 ** 18

# Each function with a plan and chairs, called so that nothing else is wrong.
WITH_START = {
    "total_carried": lambda plan, chairs, start: total_carried(plan, chairs, start, 1),
    "red_chairs": lambda plan, chairs, start: red_chairs(plan, chairs, start, 1),
    "carryings": lambda plan, chairs, start: list(carryings(plan, chairs, start, 1, 1)),
    "find_evidence": find_evidence,
    "judge_evidence": lambda plan, chairs, start: judge_evidence(plan, chairs, start, []),
}
WITHOUT_START = {
    "summary": summary,
    "first_difference": lambda plan, chairs: first_difference(plan, plan, chairs),
    "simple_plan": simple_plan,
    "long_run": long_run,
    "saving": saving,
    "StartObserver": StartObserver,
}
ALL = {
    **{name: (lambda plan, chairs, call=call: call(plan, chairs, 0)) for name, call in WITH_START.items()},
    **WITHOUT_START,
}
# Each function with a plan and chairs, called so that what comes after the house is wrong, too.
WRONG_BEHIND = {
    "total_carried": lambda plan, chairs, start: total_carried(plan, chairs, start, -1),
    "red_chairs": lambda plan, chairs, start: red_chairs(plan, chairs, start, MOST + 1),
    "carryings": lambda plan, chairs, start: list(carryings(plan, chairs, start, 0, 0)),
    "judge_evidence": lambda plan, chairs, start: judge_evidence(plan, chairs, start, [-1]),
}
WRONG_STEPS = [
    ("red", -1), ("blue", MOST + 1), ("red", True), ("blue",), ("turn", 1), ("green", 6), (), ["red", 6], "turn", None, 6,
]


class HouseErrors(unittest.TestCase):
    def assert_too_few(self, index, call, *arguments):
        with self.assertRaises(TooFewChairs) as caught:
            call(*arguments)
        self.assertEqual(caught.exception.index, index)

    def test_functions_are_defined_in_their_files(self):
        listed = {
            effects: ["total_carried", "red_chairs", "carryings", "summary", "first_difference"],
            evidence: ["find_evidence", "judge_evidence"],
            simple: ["simple_plan"],
            chairs_module: ["long_run", "saving", "fewest_chairs", "sparing_chairs", "best_chairs"],
            observers: ["StartObserver"],
        }
        for module, names in listed.items():
            for name in names:
                self.assertEqual(getattr(module, name).__module__, module.__name__)
        self.assertTrue(inspect.isgeneratorfunction(carryings))
        self.assertIn("see", vars(StartObserver))
        self.assertIsInstance(vars(StartObserver)["possible_starts"], property)
        self.assertIsInstance(vars(StartObserver)["records"], property)

    def test_parameter_names(self):
        plan = Plan(("red", 6), ("blue", 7))
        self.assertEqual(total_carried(plan=plan, chairs=10, start=8, rounds=1), 5)
        self.assertEqual(red_chairs(plan=plan, chairs=10, start=8, rounds=1), 3)
        self.assertEqual(list(carryings(plan=plan, chairs=10, start=8, first=1, last=2)), [0, 5])
        self.assertEqual(summary(plan=plan, chairs=10), (6, 6, 3, 3, False))
        self.assertIsNone(first_difference(plan=plan, other=plan, chairs=10))
        self.assertEqual(find_evidence(plan=plan, chairs=10, start=8), [1])
        self.assertEqual(judge_evidence(plan=plan, chairs=10, start=8, indexes=[1]), 5)
        self.assertEqual(simple_plan(plan=plan, chairs=10).steps, plan.steps)
        self.assertEqual([long_run(plan=plan, chairs=10), saving(plan=plan, chairs=10)], [(6, 1), (2, 1)])
        self.assertEqual([fewest_chairs(plan=plan), sparing_chairs(plan=plan)], [7, 13])
        self.assertEqual(best_chairs(plan=plan, price=100, carry_price=1, rounds=60), 13)
        self.assertEqual(StartObserver(plan=plan, chairs=10).see(number=1, count=0), 5)

    def test_chairs_out_of_range(self):
        for name, call in ALL.items():
            for chairs in (-1, MOST + 1, -MOST, True, False):
                for plan in (Plan(("red", 0)), Plan(TURN), Plan(("red", 6), ("blue", MOST))):
                    with self.subTest(name=name, chairs=chairs), self.assertRaises(InvalidNumber):
                        call(plan, chairs)

    def test_chairs_at_their_limits(self):
        for name, call in ALL.items():
            with self.subTest(name=name):
                call(Plan(("red", 0)), 0)
                call(Plan(("red", 1)), 1)
                call(Plan(("red", MOST - 1)), MOST - 1)
                if name == "saving":
                    with self.assertRaises(InvalidNumber):
                        saving(Plan(("red", MOST), ("blue", MOST)), MOST)
                else:
                    call(Plan(("red", MOST), ("blue", MOST)), MOST)

    def test_too_few_chairs(self):
        for name, call in ALL.items():
            with self.subTest(name=name):
                self.assert_too_few(0, call, Plan(("red", 1)), 0)
                self.assert_too_few(0, call, Plan(("blue", 1)), 0)
                self.assert_too_few(1, call, Plan(("red", 6), ("blue", 7)), 6)
                self.assert_too_few(2, call, Plan(("red", 6), TURN, ("blue", 7), ("red", 9)), 6)
                self.assert_too_few(59, call, Plan(*[TURN] * 59, ("red", MOST)), MOST - 1)
                call(Plan(("red", 6), ("blue", 7)), 7)

    def test_start_out_of_range(self):
        for name, call in WITH_START.items():
            for chairs, start in ((10, -1), (10, 11), (0, -1), (0, 1), (MOST, MOST + 1), (10, True), (10, False)):
                with self.subTest(name=name, start=start), self.assertRaises(InvalidNumber):
                    call(Plan(("red", 0)), chairs, start)

    def test_start_at_its_limits(self):
        for name, call in WITH_START.items():
            for chairs, start in ((10, 0), (10, 1), (10, 9), (10, 10), (0, 0), (MOST, 0), (MOST, MOST - 1), (MOST, MOST)):
                with self.subTest(name=name, start=start):
                    call(Plan(("red", 0)), chairs, start)

    def test_order_of_errors(self):
        plan = Plan(("red", 1), ("blue", 7))
        for name, call in [*WITH_START.items(), *WRONG_BEHIND.items()]:
            with self.subTest(name=name):
                for chairs in (-1, MOST + 1, True):
                    with self.assertRaises(InvalidNumber):
                        call(plan, chairs, -1)
                for start in (7, -1, True, 0):
                    self.assert_too_few(1, call, plan, 6, start)
                for start in (8, -1, True):
                    with self.assertRaises(InvalidNumber):
                        call(plan, 7, start)

    def test_evidence_is_judged_last(self):
        with self.assertRaises(InvalidEvidence) as caught:
            judge_evidence(Plan(("red", 1), ("blue", 7)), 7, 7, [0, 2])
        self.assertEqual(caught.exception.index, 1)


class RandomHouses(unittest.TestCase):
    def random_steps(self, source, chairs):
        """Return steps, and the index of the first one that is wrong or the 61st; None if there is none."""
        many = source.choice([source.randint(0, 6), source.randint(0, 6), source.randint(55, 65)])
        steps = [random_step(source, chairs) for number in range(many)]
        wrong = 60 if many > 60 else None
        if many > 0 and source.randrange(3) == 0:
            at = source.randrange(many)
            steps[at] = source.choice(WRONG_STEPS)
            wrong = min(at, 60)
        return steps, wrong

    def test_plans(self):
        source = fixed_source(50)
        for number in range(2000):
            steps, wrong = self.random_steps(source, source.choice([5, MOST]))
            with self.subTest(steps=steps):
                if wrong is not None:
                    with self.assertRaises(InvalidPlan) as caught:
                        Plan(*steps)
                    self.assertEqual(caught.exception.index, wrong)
                else:
                    plan = Plan(*steps)
                    self.assertEqual(plan.steps, tuple(steps))
                    self.assertIs(plan.is_turning, steps.count(TURN) % 2 == 1)
                    cut = source.randint(0, len(steps))
                    self.assertEqual(Plan(*steps[:cut]).joined(Plan(*steps[cut:])).steps, plan.steps)

    def expected_error(self, steps, chairs, start):
        """Return the error that a house raises, and its index; None if there is none."""
        if isinstance(chairs, bool) or chairs not in range(MOST + 1):
            return InvalidNumber, None
        needing = [index for index, step in enumerate(steps) if step != TURN and step[1] > chairs]
        if needing:
            return TooFewChairs, needing[0]
        if isinstance(start, bool) or start not in range(chairs + 1):
            return InvalidNumber, None
        return None

    def assert_as_expected(self, expected, call, *arguments):
        if expected is None:
            return call(*arguments)
        with self.assertRaises(expected[0]) as caught:
            call(*arguments)
        if expected[1] is not None:
            self.assertEqual(caught.exception.index, expected[1])

    def test_houses(self):
        source = fixed_source(51)
        for number in range(600):
            most = source.choice([6, MOST])
            plan = Plan(*[random_step(source, most) for each in range(source.randint(1, 8))])
            chairs = source.choice([
                source.randint(0, most), source.randint(0, most), most, most - 1, -1, MOST + 1, True,
            ])
            start = source.choice([0, chairs, source.randint(0, most), chairs + 1, -1, False])
            with self.subTest(steps=plan.steps, chairs=chairs, start=start):
                for call in WITH_START.values():
                    self.assert_as_expected(self.expected_error(plan.steps, chairs, start), call, plan, chairs, start)
                for name, call in WITHOUT_START.items():
                    expected = self.expected_error(plan.steps, chairs, 0)
                    if name == "saving" and chairs == MOST:
                        expected = InvalidNumber, None
                    self.assert_as_expected(expected, call, plan, chairs)

    def test_first_difference_judges_the_first_plan_first(self):
        source = fixed_source(52)
        for number in range(400):
            plan = Plan(*[random_step(source, 6) for each in range(4)])
            other = Plan(*[random_step(source, 6) for each in range(4)])
            chairs = source.choice([source.randint(0, 6), source.randint(0, 6), -1, MOST + 1])
            expected = self.expected_error(plan.steps, chairs, 0) or self.expected_error(other.steps, chairs, 0)
            with self.subTest(steps=plan.steps, other=other.steps, chairs=chairs):
                self.assert_as_expected(expected, first_difference, plan, other, chairs)


if __name__ == "__main__":
    unittest.main()
