"""Point 4, and the first sentence of point 6: what a plan carries in rounds and in steps."""

import inspect
import unittest

from chaircarry.effects import carryings, red_chairs, total_carried
from chaircarry.errors import InvalidNumber, TooFewChairs
from chaircarry.plans import Plan
from tests.simulation import fixed_source, outcome, random_plan, simulate

TURN = ("turn",)
MOST = 10 ** 18


class Rounds(unittest.TestCase):
    def test_random_plans_agree_with_a_simulation(self):
        source = fixed_source(4)
        for number in range(1500):
            chairs = source.choice([source.randint(0, 3), source.randint(0, 12), source.randint(0, 1000), MOST])
            plan = random_plan(source, chairs)
            start = source.randint(0, chairs)
            rounds = source.randint(0, 7)
            carried, red = simulate(plan, chairs, start, rounds)
            with self.subTest(steps=plan.steps, chairs=chairs, start=start, rounds=rounds):
                self.assertEqual(total_carried(plan, chairs, start, rounds), sum(carried))
                self.assertEqual(red_chairs(plan, chairs, start, rounds), red)

    def test_every_number_of_rounds_up_to_40(self):
        source = fixed_source(5)
        for number in range(60):
            plan, start = random_plan(source, 9), source.randint(0, 9)
            for rounds in range(41):
                carried, red = simulate(plan, 9, start, rounds)
                self.assertEqual(total_carried(plan, 9, start, rounds), sum(carried), plan.steps)
                self.assertEqual(red_chairs(plan, 9, start, rounds), red, plan.steps)

    def test_long_plans(self):
        source = fixed_source(6)
        for number in range(60):
            plan, start = random_plan(source, 40, 60, 40), source.randint(0, 40)
            for rounds in range(5):
                carried, red = simulate(plan, 40, start, rounds)
                self.assertEqual(total_carried(plan, 40, start, rounds), sum(carried), plan.steps)
                self.assertEqual(red_chairs(plan, 40, start, rounds), red, plan.steps)

    def test_rounds_far_away_add_up(self):
        source = fixed_source(7)
        for number in range(400):
            chairs = source.choice([source.randint(0, 12), MOST])
            plan, start = random_plan(source, chairs), source.randint(0, chairs)
            first = source.choice([source.randint(0, 5), source.randint(0, MOST)])
            second = source.choice([source.randint(0, 5), MOST - first])
            second = min(second, MOST - first)
            between = red_chairs(plan, chairs, start, first)
            with self.subTest(steps=plan.steps, chairs=chairs, start=start, first=first, second=second):
                self.assertEqual(
                    total_carried(plan, chairs, start, first + second),
                    total_carried(plan, chairs, start, first) + total_carried(plan, chairs, between, second),
                )
                self.assertEqual(
                    red_chairs(plan, chairs, start, first + second), red_chairs(plan, chairs, between, second)
                )

    def test_known_rounds_far_away(self):
        turning = Plan(("red", 6), TURN)
        self.assertEqual([total_carried(turning, 10, 10, rounds) for rounds in (1, 2, 3, 4)], [0, 6, 8, 10])
        self.assertEqual(total_carried(turning, 10, 10, MOST), 6 + 2 * (MOST - 2))
        self.assertEqual([red_chairs(turning, 10, 10, rounds) for rounds in (0, 1, MOST - 1, MOST)], [10, 0, 4, 4])
        self.assertEqual([red_chairs(Plan(TURN), 10, 3, rounds) for rounds in (MOST - 1, MOST)], [7, 3])
        self.assertEqual(total_carried(Plan(TURN), 10, 3, MOST), 0)
        both = Plan(("red", MOST), ("blue", MOST))
        self.assertEqual(total_carried(both, MOST, 0, MOST), 2 * MOST * MOST)
        self.assertEqual(total_carried(both, MOST, MOST, MOST), 2 * MOST * MOST - MOST)
        uneven = Plan(("red", 8), ("blue", 3), TURN)
        self.assertEqual([total_carried(uneven, 10, 0, rounds) for rounds in (1, 2, 3, 4)], [9, 15, 21, 27])
        self.assertEqual(total_carried(uneven, 10, 0, MOST - 1), 9 + 6 * (MOST - 2))

    def test_plan_without_steps(self):
        for rounds in (0, 1, 2, MOST):
            self.assertEqual(total_carried(Plan(), 10, 4, rounds), 0)
            self.assertEqual(red_chairs(Plan(), 10, 4, rounds), 4)

    def test_rounds_out_of_range(self):
        for plan in (Plan(("red", 6)), Plan()):
            for call in (total_carried, red_chairs):
                for rounds in (-1, MOST + 1, True, False):
                    with self.subTest(call=call.__name__, rounds=rounds), self.assertRaises(InvalidNumber):
                        call(plan, 10, 4, rounds)

    def test_no_rounds(self):
        self.assertEqual(total_carried(Plan(("red", 6), TURN), 10, 4, 0), 0)
        self.assertEqual(red_chairs(Plan(("red", 6), TURN), 10, 4, 0), 4)


class Carryings(unittest.TestCase):
    def test_random_plans_agree_with_a_simulation(self):
        source = fixed_source(8)
        for number in range(1000):
            chairs = source.choice([source.randint(0, 12), source.randint(0, 1000), MOST])
            plan, start = random_plan(source, chairs, 8, 1), source.randint(0, chairs)
            carried = simulate(plan, chairs, start, 8)[0]
            first = source.randint(1, len(carried))
            last = source.randint(first, len(carried))
            with self.subTest(steps=plan.steps, chairs=chairs, start=start, first=first, last=last):
                self.assertEqual(list(carryings(plan, chairs, start, first, last)), carried[first - 1:last])

    def test_steps_far_away_are_those_of_the_state_there(self):
        source = fixed_source(9)
        for number in range(400):
            chairs = source.choice([source.randint(0, 12), MOST])
            plan, start = random_plan(source, chairs, 8, 1), source.randint(0, chairs)
            many = len(plan.steps)
            rounds = source.randint(0, MOST // many - 5)
            there = red_chairs(plan, chairs, start, rounds)
            expected = simulate(plan, chairs, there, 4)[0]
            skipped = source.randrange(many)
            first, last = rounds * many + skipped + 1, rounds * many + 4 * many
            with self.subTest(steps=plan.steps, chairs=chairs, start=start, first=first):
                self.assertEqual(list(carryings(plan, chairs, start, first, last)), expected[skipped:])

    def test_last_step_of_all(self):
        turning = Plan(("red", 6), TURN, ("red", 5))
        self.assertEqual(list(carryings(turning, 10, 0, MOST, MOST)), [1])
        self.assertEqual(list(carryings(turning, 10, 0, MOST - 5, MOST)), [0, 1, 1, 0, 1, 1])

    def test_single_steps(self):
        plan = Plan(("red", 6), ("blue", 7))
        self.assertEqual([list(carryings(plan, 10, 8, at, at)) for at in (1, 2, 3)], [[0], [5], [3]])

    def test_turns_carry_nothing(self):
        self.assertEqual(list(carryings(Plan(TURN, ("red", 6)), 10, 6, 1, 4)), [0, 2, 0, 2])

    def test_10000_steps_are_allowed(self):
        plan = Plan(("red", 6), ("blue", 7))
        for first in (1, 2, 77, MOST - 9999):
            found = list(carryings(plan, 10, 0, first, first + 9999))
            self.assertEqual(len(found), 10000)
            self.assertEqual(found[2:], [3] * 9998)

    def test_more_than_10000_steps(self):
        plan = Plan(("red", 6), ("blue", 7))
        for first, last in ((1, 10001), (2, 10002), (1, MOST), (MOST - 10000, MOST)):
            with self.subTest(first=first, last=last), self.assertRaises(InvalidNumber):
                next(carryings(plan, 10, 8, first, last))

    def test_numbers_out_of_range(self):
        plan = Plan(("red", 6), ("blue", 7))
        wrong = [
            (0, 1), (0, 0), (-1, 2), (MOST + 1, MOST + 1), (MOST, MOST + 1), (1, 0), (3, 2), (2, 1), (MOST, MOST - 1),
            (True, 2), (1, True), (False, 2), (1, -1),
        ]
        for first, last in wrong:
            with self.subTest(first=first, last=last), self.assertRaises(InvalidNumber):
                next(carryings(plan, 10, 8, first, last))

    def test_plan_without_steps(self):
        for first, last in ((1, 1), (1, 10000), (MOST, MOST)):
            with self.assertRaises(InvalidNumber):
                next(carryings(Plan(), 10, 8, first, last))

    def test_errors_are_raised_when_the_iteration_begins(self):
        plan = Plan(("red", 6), ("blue", 7))
        made = [
            (carryings(plan, -1, 8, 1, 2), InvalidNumber),
            (carryings(plan, 6, 5, 1, 2), TooFewChairs),
            (carryings(plan, 10, 11, 1, 2), InvalidNumber),
            (carryings(plan, 10, 8, 0, 2), InvalidNumber),
            (carryings(plan, 10, 8, 2, 1), InvalidNumber),
            (carryings(plan, 10, 8, 1, 10001), InvalidNumber),
            (carryings(Plan(), 10, 8, 1, 1), InvalidNumber),
        ]
        for generator, error in made:
            self.assertTrue(inspect.isgenerator(generator))
            with self.assertRaises(error):
                next(generator)

    def test_steps_add_up_to_the_total(self):
        source = fixed_source(10)
        for number in range(200):
            plan, start = random_plan(source, 12, 8, 1), source.randint(0, 12)
            rounds = source.randint(1, 9)
            found = sum(carryings(plan, 12, start, 1, rounds * len(plan.steps)))
            self.assertEqual(found, total_carried(plan, 12, start, rounds), plan.steps)


def least_of_all_ways(plan, chairs, start):
    """Return how many chairs must be carried at least, whatever is carried before each step.

    `least` has, for each number of chairs in the room that is red at first, the
    fewest chairs that any way to this number carries.
    """
    least = {start: 0}
    red_sign_moved = False
    for step in plan.steps:
        reached = {}
        for now, so_far in least.items():
            for then in range(chairs + 1):
                carried = so_far + abs(then - now)
                reached[then] = min(carried, reached.get(then, carried))
        if step == TURN:
            red_sign_moved = not red_sign_moved
        else:
            in_first_room = (step[0] == "red") != red_sign_moved
            reached = {
                then: carried
                for then, carried in reached.items()
                if (then if in_first_room else chairs - then) >= step[1]
            }
        least = reached
    return min(least.values())


class NobodyCarriesLess(unittest.TestCase):
    def test_search_through_all_ways(self):
        source = fixed_source(11)
        for number in range(500):
            chairs = source.randint(0, 7)
            plan = random_plan(source, chairs)
            for start in range(chairs + 1):
                with self.subTest(steps=plan.steps, chairs=chairs, start=start):
                    found = total_carried(plan, chairs, start, 1)
                    self.assertGreaterEqual(least_of_all_ways(plan, chairs, start), found)
                    self.assertEqual(found, outcome(plan, chairs, start)[0])


if __name__ == "__main__":
    unittest.main()
