"""Point 9: starts that nobody saw."""

import unittest

from chaircarry.effects import carryings
from chaircarry.errors import Contradiction, InvalidNumber, TooFewChairs
from chaircarry.observers import StartObserver
from chaircarry.plans import Plan
from tests.simulation import Rooms, fixed_source, random_plan, simulate

TURN = ("turn",)
MOST = 10 ** 18


def carried_at(plan, chairs, start, number):
    """Return how many chairs a step carries."""
    return list(carryings(plan, chairs, start, number, number))[0]


def simulated_at(plan, chairs, start, number):
    """Return how many chairs a step carries that is not far away."""
    return simulate(plan, chairs, start, (number - 1) // len(plan.steps) + 1)[0][number - 1]


def near_number(source, plan):
    return source.randint(1, 5 * len(plan.steps))


def far_number(source, plan):
    return source.choice([near_number(source, plan), source.randint(1, MOST), MOST - source.randint(0, 200)])


class SmallHouses(unittest.TestCase):
    def test_search_through_all_starts(self):
        source = fixed_source(90)
        for number in range(1500):
            chairs = source.choice([source.randint(0, 5), source.randint(0, 30)])
            plan = random_plan(source, chairs, 8, 1)
            hidden = source.randint(0, chairs)
            self.assert_agrees(source, plan, chairs, hidden)

    def assert_agrees(self, source, plan, chairs, hidden):
        """Show an observer up to six observations, and compare it with all starts that explain them."""
        observer = StartObserver(plan, chairs)
        starts, accepted = list(range(chairs + 1)), []
        self.assertEqual(observer.possible_starts, (0, chairs))
        self.assertEqual(observer.records, [])
        for each in range(source.randint(1, 6)):
            number = near_number(source, plan)
            count = simulated_at(plan, chairs, hidden, number)
            if source.randrange(3) == 0:
                count = source.choice([0, source.randint(0, chairs), min(chairs, count + 1), max(0, count - 1)])
            left = [start for start in starts if simulated_at(plan, chairs, start, number) == count]
            with self.subTest(steps=plan.steps, chairs=chairs, accepted=accepted, number=number, count=count):
                if left:
                    starts = left
                    accepted.append((number, count))
                    self.assertEqual(observer.see(number, count), len(starts))
                else:
                    with self.assertRaises(Contradiction):
                        observer.see(number, count)
                self.assertEqual(observer.possible_starts, (starts[0], starts[-1]))
                self.assertEqual(len(starts), starts[-1] - starts[0] + 1)
                self.assertEqual(observer.records, accepted)

    def test_all_numbers_and_counts_of_short_plans(self):
        source = fixed_source(91)
        for each in range(150):
            chairs = source.randint(0, 6)
            plan = random_plan(source, chairs, 5, 1)
            many = 6 * len(plan.steps)
            carried = [simulate(plan, chairs, start, 6)[0] for start in range(chairs + 1)]
            for number in range(1, many + 1):
                for count in range(chairs + 1):
                    starts = [start for start in range(chairs + 1) if carried[start][number - 1] == count]
                    observer = StartObserver(plan, chairs)
                    with self.subTest(steps=plan.steps, chairs=chairs, number=number, count=count):
                        if starts:
                            self.assertEqual(observer.see(number, count), len(starts))
                            self.assertEqual(observer.possible_starts, (starts[0], starts[-1]))
                        else:
                            with self.assertRaises(Contradiction):
                                observer.see(number, count)

    def test_long_plans(self):
        source = fixed_source(92)
        for each in range(60):
            chairs = source.randint(0, 30)
            self.assert_agrees(source, random_plan(source, chairs, 60, 50), chairs, source.randint(0, chairs))


class LargeHouses(unittest.TestCase):
    def gentle_plan(self, source, chairs):
        """Return a plan that need not tell all starts alike: together, its meetings need about all chairs or fewer."""
        half = chairs // 2
        steps = []
        for each in range(source.randint(1, 8)):
            need = source.choice([source.randint(0, half), source.randint(0, half), source.randint(0, chairs)])
            steps.append(source.choice([("red", need), ("blue", need), TURN]))
        return Plan(*steps)

    def test_true_observations(self):
        source = fixed_source(93)
        for each in range(1200):
            chairs = source.choice([MOST, MOST - 1, source.randint(0, MOST), source.randint(0, 10 ** 4)])
            plan = self.gentle_plan(source, chairs)
            hidden = source.choice([0, chairs, source.randint(0, chairs), source.randint(0, chairs)])
            observer = StartObserver(plan, chairs)
            accepted = []
            for more in range(source.randint(1, 6)):
                number = far_number(source, plan)
                count = carried_at(plan, chairs, hidden, number)
                accepted.append((number, count))
                with self.subTest(steps=plan.steps, chairs=chairs, hidden=hidden, accepted=accepted):
                    many = observer.see(number, count)
                    least, greatest = observer.possible_starts
                    self.assertTrue(0 <= least <= hidden <= greatest <= chairs)
                    self.assertEqual(many, greatest - least + 1)
                    self.assertEqual(observer.records, accepted)
                    self.assert_bounds(plan, chairs, accepted, least, greatest)

    def assert_bounds(self, plan, chairs, accepted, least, greatest):
        """Check that the bounds explain all observations, and that the numbers just outside do not."""
        for start in (least - 1, least, greatest, greatest + 1):
            if 0 <= start <= chairs:
                explains = all(carried_at(plan, chairs, start, number) == count for number, count in accepted)
                self.assertIs(explains, least <= start <= greatest, start)

    def test_near_observations_agree_with_a_simulation(self):
        source = fixed_source(94)
        for each in range(300):
            plan = self.gentle_plan(source, MOST)
            hidden = source.randint(0, MOST)
            number = near_number(source, plan)
            count = simulated_at(plan, MOST, hidden, number)
            observer = StartObserver(plan, MOST)
            observer.see(number, count)
            least, greatest = observer.possible_starts
            self.assertTrue(least <= hidden <= greatest)
            for start in (least - 1, least, greatest, greatest + 1):
                if 0 <= start <= MOST:
                    explains = simulated_at(plan, MOST, start, number) == count
                    self.assertIs(explains, least <= start <= greatest, (plan.steps, number, start))

    def test_wrong_observations_change_nothing(self):
        source = fixed_source(95)
        for each in range(400):
            plan = self.gentle_plan(source, MOST)
            hidden = source.randint(0, MOST)
            observer = StartObserver(plan, MOST)
            for more in range(4):
                number = far_number(source, plan)
                observer.see(number, carried_at(plan, MOST, hidden, number))
            before = (observer.possible_starts, observer.records)
            number = far_number(source, plan)
            least, greatest = observer.possible_starts
            # What a step carries grows or falls with the start: between its ends lie all counts that are possible.
            ends = sorted(carried_at(plan, MOST, start, number) for start in (least, greatest))
            for count in (ends[0] - 1, ends[1] + 1):
                if 0 <= count <= MOST:
                    with self.subTest(steps=plan.steps, number=number, count=count):
                        with self.assertRaises(Contradiction):
                            observer.see(number, count)
                        self.assertEqual((observer.possible_starts, observer.records), before)

    def test_each_start_can_be_found(self):
        plan = Plan(("red", MOST // 2), ("blue", MOST // 2))
        for start in (0, 1, MOST // 2 - 1, MOST // 2, MOST // 2 + 1, MOST - 1, MOST):
            observer = StartObserver(plan, MOST)
            observer.see(1, max(0, MOST // 2 - start))
            self.assertEqual(observer.see(2, max(0, start - MOST // 2)), 1)
            self.assertEqual(observer.possible_starts, (start, start))
            # All later steps carry nothing, and tell nothing new.
            self.assertEqual([observer.see(number, 0) for number in (3, MOST - 1, MOST)], [1, 1, 1])
            with self.assertRaises(Contradiction):
                observer.see(MOST, 1)


class Observers(unittest.TestCase):
    def test_numbers_out_of_range(self):
        observer = StartObserver(Plan(("red", 6), ("blue", 7)), 10)
        observer.see(1, 0)
        wrong = [
            (0, 0), (-1, 0), (MOST + 1, 3), (True, 0), (False, 0), (1, -1), (1, 11), (2, 11), (1, True), (1, False),
            (0, 11), (MOST, -1), (MOST + 1, 11),
        ]
        for number, count in wrong:
            with self.subTest(number=number, count=count):
                with self.assertRaises(InvalidNumber):
                    observer.see(number, count)
                self.assertEqual([observer.possible_starts, observer.records], [(6, 10), [(1, 0)]])

    def test_numbers_at_their_limits(self):
        observer = StartObserver(Plan(("red", 6), ("blue", 7)), 10)
        self.assertEqual(observer.see(MOST, 3), 11)
        self.assertEqual(observer.see(1, 6), 1)
        with self.assertRaises(Contradiction):
            observer.see(1, 10)
        with self.assertRaises(Contradiction):
            observer.see(1, 0)
        self.assertEqual(observer.records, [(MOST, 3), (1, 6)])
        all_chairs = StartObserver(Plan(("red", 10)), 10)
        self.assertEqual([all_chairs.see(1, 10), all_chairs.possible_starts], [1, (0, 0)])

    def test_errors_of_the_constructor(self):
        for plan in (Plan(("red", 7)), Plan()):
            for chairs in (-1, MOST + 1, True, False):
                with self.assertRaises(InvalidNumber):
                    StartObserver(plan, chairs)
        with self.assertRaises(TooFewChairs) as caught:
            StartObserver(Plan(("red", 6), TURN, ("blue", 7)), 6)
        self.assertEqual(caught.exception.index, 2)
        for chairs in (0, 10, MOST):
            with self.assertRaises(InvalidNumber):
                StartObserver(Plan(), chairs)

    def test_turns_tell_nothing(self):
        observer = StartObserver(Plan(TURN), 10)
        self.assertEqual([observer.see(number, 0) for number in (1, 2, MOST)], [11, 11, 11])
        for number in (1, 2, MOST):
            with self.assertRaises(Contradiction):
                observer.see(number, 1)
        self.assertEqual(observer.possible_starts, (0, 10))

    def test_the_start_is_that_of_the_room_that_is_red_at_first(self):
        observer = StartObserver(Plan(TURN, ("red", 6)), 10)
        self.assertEqual([observer.see(2, 5), observer.possible_starts], [1, (9, 9)])
        self.assertEqual(Rooms(10, 9).held, [9, 1])

    def test_house_without_chairs(self):
        observer = StartObserver(Plan(("red", 0), TURN), 0)
        self.assertEqual([observer.see(1, 0), observer.possible_starts, observer.see(2, 0)], [1, (0, 0), 1])
        with self.assertRaises(InvalidNumber):
            observer.see(1, 1)

    def test_the_same_observation_again(self):
        observer = StartObserver(Plan(("red", 6), ("blue", 7)), 10)
        self.assertEqual([observer.see(1, 2), observer.see(1, 2), observer.see(2, 3)], [1, 1, 1])
        self.assertEqual(observer.records, [(1, 2), (1, 2), (2, 3)])

    def test_records_may_be_modified(self):
        observer = StartObserver(Plan(("red", 6), ("blue", 7)), 10)
        observer.see(1, 0)
        records = observer.records
        self.assertIsInstance(records, list)
        records.append((2, 5))
        records[0] = None
        self.assertEqual(observer.records, [(1, 0)])
        self.assertEqual(observer.see(2, 5), 1)
        self.assertEqual(observer.records, [(1, 0), (2, 5)])
        self.assertEqual(records, [None, (2, 5)])

    def test_observers_share_nothing(self):
        plan = Plan(("red", 6), ("blue", 7))
        first, second = StartObserver(plan, 10), StartObserver(plan, 10)
        first.see(1, 0)
        self.assertEqual([second.possible_starts, second.records], [(0, 10), []])

    def test_properties_cannot_be_assigned(self):
        observer = StartObserver(Plan(("red", 6)), 10)
        for name in ("possible_starts", "records"):
            with self.assertRaises(AttributeError):
                setattr(observer, name, ())


if __name__ == "__main__":
    unittest.main()
