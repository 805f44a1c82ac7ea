"""Point 1, for points 1 to 9: nothing that is passed or returned is kept or changed, and calls can be repeated."""

import unittest

from chaircarry.chairs import best_chairs, fewest_chairs, long_run, saving, sparing_chairs
from chaircarry.effects import carryings, first_difference, red_chairs, summary, total_carried
from chaircarry.errors import ChairError, InvalidEvidence, InvalidNumber, TooFewChairs
from chaircarry.evidence import find_evidence, judge_evidence
from chaircarry.observers import StartObserver
from chaircarry.plans import Plan
from chaircarry.simple import simple_plan
from tests.simulation import fixed_source, random_plan

TURN = ("turn",)
MOST = 10 ** 18

# Calls with a plan, another plan, a number of chairs, a start, and a list of indexes.
CALLS = [
    lambda plan, other, chairs, start, indexes: plan.joined(other).steps,
    lambda plan, other, chairs, start, indexes: (plan.steps, plan.is_turning),
    lambda plan, other, chairs, start, indexes: total_carried(plan, chairs, start, 5),
    lambda plan, other, chairs, start, indexes: red_chairs(plan, chairs, start, MOST),
    lambda plan, other, chairs, start, indexes: list(carryings(plan, chairs, start, 2, 9)),
    lambda plan, other, chairs, start, indexes: list(carryings(plan, chairs, start, 3, 2)),
    lambda plan, other, chairs, start, indexes: summary(plan, chairs),
    lambda plan, other, chairs, start, indexes: first_difference(plan, other, chairs),
    lambda plan, other, chairs, start, indexes: find_evidence(plan, chairs, start),
    lambda plan, other, chairs, start, indexes: judge_evidence(plan, chairs, start, indexes),
    lambda plan, other, chairs, start, indexes: judge_evidence(plan, chairs, start, find_evidence(plan, chairs, start)),
    lambda plan, other, chairs, start, indexes: simple_plan(plan, chairs).steps,
    lambda plan, other, chairs, start, indexes: long_run(plan, chairs),
    lambda plan, other, chairs, start, indexes: saving(plan, chairs),
    lambda plan, other, chairs, start, indexes: [fewest_chairs(plan), sparing_chairs(plan)],
    lambda plan, other, chairs, start, indexes: best_chairs(plan, 7, 2, 3),
    lambda plan, other, chairs, start, indexes: seen_by_observer(plan, chairs, start),
    lambda plan, other, chairs, start, indexes: total_carried(plan, chairs, chairs + 1, 1),
    lambda plan, other, chairs, start, indexes: summary(plan, chairs // 2),
]


def seen_by_observer(plan, chairs, start):
    observer = StartObserver(plan, chairs)
    found = []
    for number in (3, 1, 2, 50, MOST):
        found.append(observer.see(number, list(carryings(plan, chairs, start, number, number))[0]))
        found.append(observer.possible_starts)
    return found, observer.records


def result_of(call, arguments):
    """Return what a call returns, or the error that it raises."""
    try:
        return call(*arguments)
    except ChairError as error:
        return error.__class__, vars(error)


class Repeated(unittest.TestCase):
    def test_calls_in_any_order_return_equal_results(self):
        source = fixed_source(110)
        for number in range(150):
            chairs = source.choice([source.randint(0, 12), MOST])
            plan, other = random_plan(source, chairs), random_plan(source, chairs)
            indexes = sorted(source.randint(0, 8) for each in range(source.randint(0, 3)))
            arguments = (plan, other, chairs, source.randint(0, chairs), indexes)
            before = (plan.steps, other.steps, list(indexes))
            first = [result_of(call, arguments) for call in CALLS]
            order = list(range(len(CALLS))) * 2
            source.shuffle(order)
            for at in order:
                with self.subTest(steps=plan.steps, chairs=chairs, at=at):
                    self.assertEqual(result_of(CALLS[at], arguments), first[at])
            self.assertEqual((plan.steps, other.steps, indexes), before)

    def test_equal_plans_have_equal_results(self):
        source = fixed_source(111)
        for number in range(100):
            plan = random_plan(source, 12)
            arguments = (Plan(("red", 3)), 12, source.randint(0, 12), [0])
            for call in CALLS:
                self.assertEqual(result_of(call, (plan, *arguments)), result_of(call, (Plan(*plan.steps), *arguments)))

    def test_returned_lists_may_be_modified(self):
        plan = Plan(("red", 6), ("blue", 7), TURN)
        for call in (lambda: find_evidence(plan, 10, 0), lambda: list(carryings(plan, 10, 0, 1, 3))):
            first = call()
            kept = list(first)
            first.append(100)
            first[0] = -1
            self.assertEqual(call(), kept)
            self.assertIsNot(call(), call())

    def test_lists_of_indexes_are_not_kept(self):
        plan = Plan(("red", 6), ("blue", 7))
        indexes = [0, 1]
        self.assertEqual(judge_evidence(plan, 10, 0, indexes), 9)
        self.assertEqual(indexes, [0, 1])
        indexes.pop()
        self.assertEqual(judge_evidence(plan, 10, 0, indexes), 6)
        indexes.extend([1, 0])
        with self.assertRaises(InvalidEvidence):
            judge_evidence(plan, 10, 0, indexes)
        self.assertEqual(indexes, [0, 1, 0])

    def test_simple_plans_change_nothing(self):
        plan = Plan(("red", 4), ("red", 6), ("blue", 2), ("blue", 7), TURN)
        steps = plan.steps
        simple = simple_plan(plan, 10)
        self.assertEqual(simple_plan(plan, 10).steps, simple.steps)
        self.assertEqual(plan.steps, steps)
        self.assertEqual(simple_plan(simple, 10).steps, simple.steps)

    def test_errors_change_nothing(self):
        plan = Plan(("red", 6), TURN, ("red", 7))
        arguments = (plan, Plan(("blue", 2)), 10, 8, [0, 2])
        first = [result_of(call, arguments) for call in CALLS]
        with self.assertRaises(TooFewChairs):
            total_carried(plan, 6, 6, 1)
        with self.assertRaises(InvalidNumber):
            total_carried(plan, 10, 6, -1)
        with self.assertRaises(InvalidNumber):
            best_chairs(plan, -1, 1, 1)
        with self.assertRaises(InvalidEvidence):
            judge_evidence(plan, 10, 8, [1])
        self.assertEqual([result_of(call, arguments) for call in CALLS], first)

    def test_generators_do_not_disturb_each_other(self):
        plan = Plan(("red", 6), ("blue", 7))
        pairs = list(zip(carryings(plan, 10, 8, 1, 4), carryings(plan, 10, 0, 1, 4)))
        self.assertEqual(pairs, [(0, 6), (5, 3), (3, 3), (3, 3)])
        generator = carryings(plan, 10, 8, 1, 4)
        self.assertEqual([next(generator), list(carryings(plan, 10, 8, 1, 4)), next(generator)], [0, [0, 5, 3, 3], 5])
        self.assertEqual(list(generator), [3, 3])

    def test_observers_do_not_change_plans(self):
        plan = Plan(("red", 6), ("blue", 7))
        observer = StartObserver(plan, 10)
        observer.see(1, 0)
        self.assertEqual(plan.steps, (("red", 6), ("blue", 7)))
        self.assertEqual([observer.possible_starts for each in range(3)], [(6, 10)] * 3)
        self.assertEqual([observer.records for each in range(3)], [[(1, 0)]] * 3)


if __name__ == "__main__":
    unittest.main()
