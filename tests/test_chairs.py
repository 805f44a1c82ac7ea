"""Point 8: what is carried in the long run, what chairs save, and the cheapest number of chairs."""

import math
import unittest
from fractions import Fraction

from chaircarry.chairs import best_chairs, fewest_chairs, long_run, saving, sparing_chairs
from chaircarry.errors import InvalidNumber, TooFewChairs
from chaircarry.plans import Plan
from tests.simulation import all_plans, carried_in_the_long_run, fixed_source, random_plan

TURN = ("turn",)
MOST = 10 ** 18
DEAREST = 10 ** 9


def random_needs(source, most, steps=8):
    """Return a plan with needs up to `most`, and up to so many steps."""
    return random_plan(source, most, steps)


def most_needed(plan):
    return max([step[1] for step in plan.steps if step != TURN], default=0)


def costs(plan, chairs, price, carry_price, rounds):
    """Return the price of chairs and of carrying, as point 8 says."""
    return price * chairs + carry_price * rounds * carried_in_the_long_run(plan, chairs, 0)


class LongRun(unittest.TestCase):
    def assert_fraction(self, found, expected):
        self.assertIsInstance(found, tuple)
        numerator, denominator = found
        self.assertGreater(denominator, 0)
        self.assertEqual(math.gcd(numerator, denominator), 1)
        self.assertEqual(Fraction(numerator, denominator), expected)

    def test_random_plans_agree_with_a_simulation_from_several_starts(self):
        source = fixed_source(80)
        for number in range(1500):
            chairs = source.choice([source.randint(0, 12), source.randint(0, 1000), MOST])
            plan = random_plan(source, chairs)
            with self.subTest(steps=plan.steps, chairs=chairs):
                found = long_run(plan, chairs)
                for start in (0, chairs, source.randint(0, chairs), source.randint(0, chairs)):
                    self.assert_fraction(found, carried_in_the_long_run(plan, chairs, start))

    def test_all_short_plans_in_small_houses(self):
        for chairs in range(5):
            for plan in all_plans(chairs, 3):
                expected = carried_in_the_long_run(plan, chairs, chairs // 2)
                self.assertEqual(long_run(plan, chairs), expected.as_integer_ratio(), (plan.steps, chairs))

    def test_savings_are_differences_and_never_grow(self):
        source = fixed_source(81)
        for number in range(250):
            plan = random_needs(source, source.choice([5, 15]))
            fewest, sparing = fewest_chairs(plan), sparing_chairs(plan)
            before = None
            for chairs in range(fewest, sparing + 3):
                with self.subTest(steps=plan.steps, chairs=chairs):
                    less = Fraction(*long_run(plan, chairs)) - Fraction(*long_run(plan, chairs + 1))
                    self.assert_fraction(saving(plan, chairs), less)
                    self.assertGreaterEqual(less, 0)
                    self.assertTrue(before is None or less <= before)
                    before = less

    def test_savings_in_large_houses(self):
        source = fixed_source(82)
        for number in range(500):
            chairs = source.choice([MOST - 1, source.randint(10 ** 6, MOST - 1)])
            plan = random_plan(source, chairs)
            expected = carried_in_the_long_run(plan, chairs, 0) - carried_in_the_long_run(plan, chairs + 1, 0)
            with self.subTest(steps=plan.steps, chairs=chairs):
                self.assert_fraction(saving(plan, chairs), expected)

    def test_no_chair_more_than_the_most(self):
        for plan in (Plan(), Plan(TURN), Plan(("red", MOST)), Plan(("red", MOST), ("blue", MOST))):
            with self.assertRaises(InvalidNumber):
                saving(plan, MOST)
            long_run(plan, MOST)
        self.assertEqual(saving(Plan(("red", MOST - 1), ("blue", MOST - 1)), MOST - 1), (2, 1))

    def test_known_plans(self):
        self.assertEqual([long_run(Plan(), 10), saving(Plan(), 10), long_run(Plan(), 0)], [(0, 1), (0, 1), (0, 1)])
        self.assertEqual([long_run(Plan(TURN), 10), saving(Plan(TURN), 10)], [(0, 1), (0, 1)])
        one_and_turn = Plan(("red", 6), TURN)
        self.assertEqual([long_run(one_and_turn, chairs) for chairs in (6, 7, 11, 12, 13)],
                         [(6, 1), (5, 1), (1, 1), (0, 1), (0, 1)])
        two_and_turn = Plan(("red", 6), ("blue", 4), TURN)
        self.assertEqual([long_run(two_and_turn, chairs) for chairs in range(6, 13)],
                         [(6, 1), (5, 1), (4, 1), (3, 1), (2, 1), (1, 1), (0, 1)])

    def test_errors(self):
        for call in (long_run, saving):
            for chairs in (-1, MOST + 1, True, False):
                for plan in (Plan(), Plan(("red", 7))):
                    with self.assertRaises(InvalidNumber):
                        call(plan, chairs)
            with self.assertRaises(TooFewChairs) as caught:
                call(Plan(("red", 6), TURN, ("blue", 7), ("red", 8)), 6)
            self.assertEqual(caught.exception.index, 2)


class NumbersOfChairs(unittest.TestCase):
    def test_random_plans(self):
        source = fixed_source(83)
        for number in range(1000):
            plan = random_needs(source, source.choice([3, 12, 30]))
            with self.subTest(steps=plan.steps):
                fewest, sparing = fewest_chairs(plan), sparing_chairs(plan)
                self.assertEqual(fewest, most_needed(plan))
                spared = fewest
                while carried_in_the_long_run(plan, spared, 0) > 0:
                    spared += 1
                self.assertEqual(sparing, spared)

    def test_large_needs(self):
        source = fixed_source(84)
        for number in range(500):
            plan = random_needs(source, MOST, 20)
            with self.subTest(steps=plan.steps):
                fewest, sparing = fewest_chairs(plan), sparing_chairs(plan)
                self.assertEqual(fewest, most_needed(plan))
                self.assertEqual(carried_in_the_long_run(plan, sparing, 0), 0)
                self.assertTrue(sparing == fewest or carried_in_the_long_run(plan, sparing - 1, 0) > 0)
                self.assertGreaterEqual(sparing, fewest)

    def test_known_plans(self):
        for plan in (Plan(), Plan(TURN), Plan(("red", 0)), Plan(("blue", 0), TURN)):
            self.assertEqual([fewest_chairs(plan), sparing_chairs(plan)], [0, 0])
        self.assertEqual([fewest_chairs(Plan(("red", 6))), sparing_chairs(Plan(("red", 6)))], [6, 6])
        two_turns = Plan(TURN, ("red", 6), TURN, ("blue", 4))
        self.assertEqual([fewest_chairs(two_turns), sparing_chairs(two_turns)], [6, 6])
        one_turn = Plan(("red", 6), ("blue", 4), TURN)
        self.assertEqual([fewest_chairs(one_turn), sparing_chairs(one_turn)], [6, 12])

    def test_more_chairs_than_a_house_may_have(self):
        both = Plan(("red", MOST), ("blue", MOST))
        self.assertEqual([fewest_chairs(both), sparing_chairs(both)], [MOST, 2 * MOST])
        self.assertEqual(sparing_chairs(Plan(("red", MOST), TURN)), 2 * MOST)
        self.assertEqual(sparing_chairs(Plan(("red", MOST), ("blue", 1))), MOST + 1)
        self.assertEqual(best_chairs(both, 1, 1, 1), 2 * MOST)
        self.assertEqual(best_chairs(both, 3, 1, 1), MOST)


class BestChairs(unittest.TestCase):
    def random_prices(self, source):
        return [source.choice([0, source.randint(0, 3), source.randint(0, 100), DEAREST]) for number in range(3)]

    def test_all_numbers_are_tried(self):
        source = fixed_source(85)
        for number in range(500):
            plan = random_needs(source, source.choice([4, 30]))
            numbers = range(most_needed(plan), 2 * most_needed(plan) + 4)
            runs = [carried_in_the_long_run(plan, chairs, 0) for chairs in numbers]
            for more in range(6):
                price, carry_price, rounds = self.random_prices(source)
                with self.subTest(steps=plan.steps, price=price, carry_price=carry_price, rounds=rounds):
                    totals = [price * chairs + carry_price * rounds * run for chairs, run in zip(numbers, runs)]
                    expected = numbers[totals.index(min(totals))]
                    self.assertEqual(best_chairs(plan, price, carry_price, rounds), expected)

    def test_prices_at_which_two_numbers_cost_the_same(self):
        source = fixed_source(86)
        for number in range(300):
            plan = random_needs(source, 20)
            chairs = source.randint(fewest_chairs(plan), sparing_chairs(plan))
            numerator, denominator = saving(plan, chairs)
            for beside in (-1, 0, 1):
                price, carry_price, rounds = max(0, numerator * 12 + beside), 4, 3 * denominator
                numbers = range(fewest_chairs(plan), sparing_chairs(plan) + 3)
                totals = [costs(plan, each, price, carry_price, rounds) for each in numbers]
                with self.subTest(steps=plan.steps, price=price, rounds=rounds):
                    found = best_chairs(plan, price, carry_price, rounds)
                    self.assertEqual(found, numbers[totals.index(min(totals))])

    def test_no_other_number_is_cheaper_with_large_needs(self):
        source = fixed_source(87)
        for number in range(300):
            plan = random_needs(source, MOST, 20)
            price, carry_price, rounds = self.random_prices(source)
            if source.randrange(2) == 0:
                price, carry_price, rounds = source.randint(1, 20), source.randint(1, 3), source.randint(1, 3)
            found = best_chairs(plan, price, carry_price, rounds)
            least = costs(plan, found, price, carry_price, rounds)
            fewest, sparing = most_needed(plan), 2 * most_needed(plan)
            self.assertGreaterEqual(found, fewest)
            others = [found - 1, found + 1, found - 2, found + 2, fewest, fewest + 1, sparing, sparing + 1]
            others += [source.randint(fewest, sparing) for more in range(12)]
            with self.subTest(steps=plan.steps, price=price, carry_price=carry_price, rounds=rounds):
                for chairs in others:
                    if fewest <= chairs < found:
                        self.assertGreater(costs(plan, chairs, price, carry_price, rounds), least)
                    elif chairs > found:
                        self.assertGreaterEqual(costs(plan, chairs, price, carry_price, rounds), least)

    def test_prices_of_0(self):
        plan, turning = Plan(("red", 6), ("blue", 7)), Plan(("red", 6), TURN)
        self.assertEqual([best_chairs(plan, 0, 1, 1), best_chairs(turning, 0, 1, 1)], [13, 12])
        self.assertEqual([best_chairs(plan, 0, 0, 5), best_chairs(plan, 0, 5, 0), best_chairs(plan, 0, 0, 0)], [7, 7, 7])
        self.assertEqual([best_chairs(plan, 5, 0, 5), best_chairs(plan, 5, 5, 0)], [7, 7])

    def test_plans_without_meetings(self):
        for plan in (Plan(), Plan(TURN), Plan(TURN, TURN)):
            for price, carry_price, rounds in ((0, 0, 0), (0, 1, 1), (1, 0, 1), (DEAREST, DEAREST, DEAREST)):
                self.assertEqual(best_chairs(plan, price, carry_price, rounds), 0)

    def test_numbers_out_of_range(self):
        plan = Plan(("red", 6), ("blue", 7))
        for wrong in (-1, DEAREST + 1, True, False, -DEAREST):
            for at in range(3):
                numbers = [1, 1, 1]
                numbers[at] = wrong
                with self.subTest(numbers=numbers), self.assertRaises(InvalidNumber):
                    best_chairs(plan, *numbers)
        for at in range(3):
            for limit in (0, DEAREST):
                numbers = [1, 1, 1]
                numbers[at] = limit
                self.assertIn(best_chairs(plan, *numbers), (7, 13))


if __name__ == "__main__":
    unittest.main()
