"""Points 2 to 8 for houses whose answers are known: each plan here is so plain that formulas tell what it does."""

import unittest

from chaircarry.chairs import best_chairs, fewest_chairs, long_run, saving, sparing_chairs
from chaircarry.effects import carryings, red_chairs, summary, total_carried
from chaircarry.evidence import find_evidence, judge_evidence
from chaircarry.plans import Plan
from chaircarry.simple import simple_plan
from tests.simulation import fixed_source

TURN = ("turn",)
MOST = 10 ** 18


def houses(source, many):
    """Yield numbers of chairs, most of them small or very large."""
    for number in range(many):
        yield source.choice([source.randint(0, 4), source.randint(0, 30), source.randint(0, MOST - 1), MOST - 1])


class TwoMeetings(unittest.TestCase):
    def test_red_and_blue(self):
        source = fixed_source(100)
        for chairs in houses(source, 600):
            half = chairs // 2
            ends = [0, chairs, half, chairs - half]
            red = source.choice([*ends, source.randint(0, chairs)])
            blue = source.choice([*ends, chairs - red, source.randint(0, chairs)])
            start = source.choice([*ends, red, source.randint(0, chairs)])
            with self.subTest(red=red, blue=blue, chairs=chairs, start=start):
                plan = Plan(("red", red), ("blue", blue))
                self.assertEqual(Plan.alternating(red, blue).steps, plan.steps)
                self.assert_carrying(plan, chairs, start, red, blue)
                self.assert_effect(plan, chairs, red, blue)
                self.assert_numbers_of_chairs(plan, chairs, red, blue)

    def assert_carrying(self, plan, chairs, start, red, blue):
        lacking = max(0, red + blue - chairs)
        first = max(0, red - start)
        second = max(0, blue - (chairs - max(red, start)))
        self.assertEqual(list(carryings(plan, chairs, start, 1, 6)), [first, second] + [lacking] * 4)
        for rounds in (1, 2, 3, MOST):
            self.assertEqual(total_carried(plan, chairs, start, rounds), first + second + (rounds - 1) * 2 * lacking)
            self.assertEqual(red_chairs(plan, chairs, start, rounds), min(max(red, start), chairs - blue))
        found = [index for index, carried in ((0, first), (1, second)) if carried > 0]
        self.assertEqual(find_evidence(plan, chairs, start), found)
        self.assertEqual(judge_evidence(plan, chairs, start, [0]), first)
        self.assertEqual(judge_evidence(plan, chairs, start, [1]), max(0, blue - (chairs - start)))
        self.assertEqual(judge_evidence(plan, chairs, start, [0, 1]), max(0, red - start + red + blue - chairs))

    def assert_effect(self, plan, chairs, red, blue):
        found = len(simple_plan(plan, chairs).steps)
        if red + blue > chairs:
            self.assertEqual(summary(plan, chairs), (red, red, red + blue - chairs, chairs - blue, False))
            self.assertEqual(found, 2)
        else:
            goal = red if red + blue == chairs else None
            self.assertEqual(summary(plan, chairs), (red, chairs - blue, 0, goal, False))
            self.assertEqual(found, (red > 0) + (blue > 0))

    def assert_numbers_of_chairs(self, plan, chairs, red, blue):
        lacking = max(0, red + blue - chairs)
        self.assertEqual(long_run(plan, chairs), (2 * lacking, 1))
        self.assertEqual(saving(plan, chairs), (2 if lacking > 0 else 0, 1))
        self.assertEqual([fewest_chairs(plan), sparing_chairs(plan)], [max(red, blue), red + blue])
        # Each chair saves two carryings in each round.
        self.assertEqual(best_chairs(plan, 7, 1, 4), red + blue)
        self.assertEqual(best_chairs(plan, 8, 1, 4), max(red, blue))
        self.assertEqual(best_chairs(plan, 9, 1, 4), max(red, blue))


class MeetingsForAllChairs(unittest.TestCase):
    def test_all_chairs_each_time(self):
        source = fixed_source(101)
        for chairs in houses(source, 300):
            many = source.choice([1, 2, 3, source.randint(1, 60), 60])
            start = source.choice([0, chairs, source.randint(0, chairs)])
            with self.subTest(chairs=chairs, many=many, start=start):
                plan = Plan.alternating(*[chairs] * many)
                self.assert_carrying(plan, chairs, start, many)
                self.assert_effect(plan, chairs, many)
                between = many if many % 2 == 0 else many - 1
                self.assertEqual(long_run(plan, chairs), (between * chairs, 1))
                self.assertEqual(fewest_chairs(plan), chairs)
                self.assertEqual(sparing_chairs(plan), chairs if many == 1 else 2 * chairs)
                if chairs > 0:
                    self.assertEqual(saving(plan, chairs), (between, 1))

    def assert_carrying(self, plan, chairs, start, many):
        carried = [chairs - start] + [chairs] * (many - 1)
        self.assertEqual(list(carryings(plan, chairs, start, 1, many)), carried)
        for rounds in (1, 2, 3, MOST):
            # After an odd number of meetings, the next round begins in the room where the chairs are.
            steps = rounds * (many if many % 2 == 0 else many - 1) + many % 2
            self.assertEqual(total_carried(plan, chairs, start, rounds), chairs - start + (steps - 1) * chairs)
            self.assertEqual(red_chairs(plan, chairs, start, rounds), chairs if many % 2 == 1 else 0)
        found = [index for index in range(many) if carried[index] > 0]
        self.assertEqual(find_evidence(plan, chairs, start), found)
        self.assertEqual(judge_evidence(plan, chairs, start, list(range(many))), sum(carried))

    def assert_effect(self, plan, chairs, many):
        goal = chairs if many % 2 == 1 else 0
        self.assertEqual(summary(plan, chairs), (chairs, chairs, (many - 1) * chairs, goal, False))
        self.assertEqual(len(simple_plan(plan, chairs).steps), many if chairs > 0 else 0)
        if chairs > 0:
            self.assertEqual(simple_plan(plan, chairs).steps, plan.steps)


class OneMeetingAndTurn(unittest.TestCase):
    def test_one_meeting_and_a_turn(self):
        source = fixed_source(102)
        for chairs in houses(source, 500):
            half = chairs // 2
            need = source.choice([0, half, chairs - half, chairs, source.randint(0, chairs)])
            start = source.choice([0, chairs, need, source.randint(0, chairs)])
            with self.subTest(need=need, chairs=chairs, start=start):
                plan = Plan(("red", need), TURN)
                self.assertIs(plan.is_turning, True)
                self.assert_carrying(plan, chairs, start, need)
                self.assert_effect(plan, chairs, need)
                lacking = max(0, 2 * need - chairs)
                self.assertEqual(long_run(plan, chairs), (lacking, 1))
                self.assertEqual(saving(plan, chairs), (1 if lacking > 0 else 0, 1))
                self.assertEqual([fewest_chairs(plan), sparing_chairs(plan)], [need, 2 * need])
                self.assertEqual([best_chairs(plan, price, 2, 3) for price in (5, 6, 7)], [2 * need, need, need])

    def assert_carrying(self, plan, chairs, start, need):
        lacking = max(0, 2 * need - chairs)
        # The meetings take place in the one and the other room in turn.
        first = max(0, need - start)
        second = max(0, need - (chairs - max(need, start)))
        self.assertEqual(list(carryings(plan, chairs, start, 1, 8)), [first, 0, second, 0, lacking, 0, lacking, 0])
        self.assertEqual(total_carried(plan, chairs, start, 1), first)
        for rounds in (2, 3, MOST - 1, MOST):
            self.assertEqual(total_carried(plan, chairs, start, rounds), first + second + (rounds - 2) * lacking)
        self.assertEqual(red_chairs(plan, chairs, start, 1), chairs - max(need, start))
        self.assertEqual(find_evidence(plan, chairs, start), [0] if first > 0 else [])
        self.assertEqual(judge_evidence(plan, chairs, start, [0]), first)

    def assert_effect(self, plan, chairs, need):
        goal = chairs if need == chairs else None
        self.assertEqual(summary(plan, chairs), (need, chairs, 0, goal, True))
        self.assertEqual(len(simple_plan(plan, chairs).steps), 2 if need > 0 else 1)

    def test_two_meetings_and_a_turn(self):
        source = fixed_source(103)
        for chairs in houses(source, 300):
            red, blue = source.randint(0, chairs), source.randint(0, chairs)
            with self.subTest(red=red, blue=blue, chairs=chairs):
                plan = Plan(("red", red), ("blue", blue), TURN)
                # Two rounds are meetings with the needs red, blue, red, blue in the rooms 0, 1, 1, 0.
                need = max(red, blue)
                self.assertEqual(sparing_chairs(plan), 2 * need)
                self.assertEqual(long_run(plan, chairs), (max(0, 2 * need - chairs), 1))


if __name__ == "__main__":
    unittest.main()
