"""Point 12: live houses."""

import inspect
import unittest

from chaircarry import live
from chaircarry.effects import red_chairs, total_carried
from chaircarry.errors import ChairError, InvalidBooking, InvalidNumber, NotEnough, TooFewChairs
from chaircarry.live import House, Trial
from chaircarry.plans import Plan
from tests.simulation import fixed_source, random_plan
from tests.twin import Twin, perform, random_operation, told_by

MOST = 10 ** 18
TURN = ("turn",)


class Interface(unittest.TestCase):
    def test_definitions(self):
        for name in ("House", "Trial"):
            self.assertEqual(getattr(live, name).__module__, "chaircarry.live")
        for name in ("red", "blue", "total_moved", "is_turned", "history"):
            self.assertIsInstance(vars(House)[name], property)
        for name in ("meet", "turn", "run", "red_counts", "undo", "redo", "apply"):
            self.assertTrue(inspect.isfunction(vars(House)[name]))
        self.assertTrue(inspect.isgeneratorfunction(vars(House)["red_counts"]))
        self.assertIsInstance(vars(House)["replay"], classmethod)
        for name in ("__enter__", "__exit__"):
            self.assertIn(name, vars(Trial))

    def test_parameters(self):
        house = House(chairs=10, red=8)
        self.assertEqual(house.meet(room="blue", need=7), 5)
        self.assertEqual(house.run(plan=Plan(("red", 6)), rounds=2), 3)
        self.assertEqual(House.replay(chairs=10, red=8).red, 8)
        with self.assertRaises(TypeError):
            House(10, 8)

    def test_red_is_0_if_it_is_not_given(self):
        self.assertEqual(told_by(House(10)), (0, 10, 0, False, [], [0]))
        self.assertEqual(told_by(House(0)), (0, 0, 0, False, [], [0]))

    def test_kinds_of_values(self):
        house = House(10, red=8)
        self.assertIs(house.turn(), None)
        self.assertIs(house.is_turned, True)
        house.run(Plan(TURN), 3)
        self.assertIs(house.is_turned, False)
        house.run(Plan(TURN), 4)
        self.assertIs(house.is_turned, False)
        self.assertIsInstance(house.history, list)
        self.assertEqual(house.history, [TURN, ("run", (TURN,), 3), ("run", (TURN,), 4)])
        self.assertIsInstance(house.history[1][1], tuple)


class WrongNumbers(unittest.TestCase):
    def test_chairs(self):
        for chairs in (-1, MOST + 1, -MOST, MOST * 10, True, False):
            for red in (0, 1, -1, True):
                with self.subTest(chairs=chairs), self.assertRaises(InvalidNumber):
                    House(chairs, red=red)
        for chairs in (0, 1, MOST - 1, MOST):
            self.assertEqual(House(chairs).blue, chairs)

    def test_red(self):
        for chairs in (0, 1, 10, MOST):
            for red in (-1, chairs + 1, MOST + 1, True, False):
                with self.subTest(chairs=chairs, red=red), self.assertRaises(InvalidNumber):
                    House(chairs, red=red)
            for red in (0, chairs // 2, chairs):
                house = House(chairs, red=red)
                self.assertEqual([house.red, house.blue], [red, chairs - red])

    def assert_raises(self, error, house, operation, index=None):
        before = told_by(house)
        with self.subTest(operation=operation), self.assertRaises(error) as caught:
            perform(house, operation)
        self.assertEqual(vars(caught.exception), {} if index is None else {"index": index})
        self.assertEqual(told_by(house), before)

    def test_meet(self):
        house = House(10, red=8)
        house.meet("blue", 7)
        for room in ("green", "Red", "", "turn", " blue", None):
            for need in (0, 6, 11, -1, MOST + 1):
                self.assert_raises(InvalidBooking, house, ("meet", room, need))
        for room in ("red", "blue"):
            for need in (-1, -MOST, MOST + 1, MOST * 10, True, False):
                self.assert_raises(InvalidBooking, house, ("meet", room, need))
            for need in (11, 12, MOST - 1, MOST):
                self.assert_raises(NotEnough, house, ("meet", room, need))
            house.meet(room, 10)
        self.assert_raises(NotEnough, House(0), ("meet", "red", 1))
        self.assert_raises(InvalidBooking, House(MOST), ("meet", "red", MOST + 1))
        self.assertEqual(House(MOST).meet("red", MOST), MOST)

    def test_run(self):
        house = House(10, red=8)
        house.meet("blue", 7)
        for rounds in (0, 1, -1, MOST + 1, True):
            self.assert_raises(TooFewChairs, house, ("run", (("red", 11),), rounds), 0)
            self.assert_raises(TooFewChairs, house, ("run", (("red", 10), TURN, ("blue", MOST), ("red", 11)), rounds), 2)
        for rounds in (-1, MOST + 1, -MOST, MOST * 10, True, False):
            self.assert_raises(InvalidNumber, house, ("run", (("red", 10),), rounds))
            self.assert_raises(InvalidNumber, house, ("run", (), rounds))
        self.assertEqual(house.run(Plan(("red", 10)), 0), 0)
        self.assertEqual(house.run(Plan(), MOST), 0)
        self.assertEqual(house.history[1:], [("run", (("red", 10),), 0), ("run", (), MOST)])


class Simulated(unittest.TestCase):
    def test_random_houses(self):
        source = fixed_source(30)
        errors = {}
        for number in range(400):
            chairs = source.choice([source.randint(0, 30), source.randint(0, 6)])
            red = source.randint(0, chairs)
            house, twin = House(chairs, red=red), Twin(chairs, red)
            for each in range(source.randint(0, 12)):
                operation = random_operation(source, chairs)
                expected = twin.expected_error(operation)
                with self.subTest(chairs=chairs, red=red, done=twin.done, operation=operation):
                    if expected is None:
                        self.assertEqual(perform(house, operation), twin.do(operation))
                    else:
                        errors[expected[0]] = errors.get(expected[0], 0) + 1
                        with self.assertRaises(ChairError) as caught:
                            perform(house, operation)
                        self.assertEqual(caught.exception.__class__.__name__, expected[0])
                        self.assertEqual(getattr(caught.exception, "index", None), expected[1])
                    self.assertEqual(told_by(house), twin.told())
        self.assertEqual(sorted(errors), ["InvalidBooking", "InvalidNumber", "NotEnough", "TooFewChairs"])
        self.assertGreater(min(errors.values()), 20)

    def test_all_short_plans_in_a_small_house(self):
        steps = [TURN, ("red", 0), ("red", 2), ("blue", 3), ("red", 3)]
        for first in steps:
            for second in steps:
                for start in range(4):
                    house, twin = House(3, red=start), Twin(3, start)
                    for operation in (("run", (first, second), 3), ("run", (second,), 2), ("run", (first,), 1)):
                        self.assertEqual(perform(house, operation), twin.do(operation))
                    self.assertEqual(told_by(house), twin.told())

    def test_red_counts_follow_the_signs(self):
        house = House(10, red=8)
        house.turn()
        house.meet("red", 5)
        house.run(Plan(("blue", 9), TURN), 1)
        self.assertEqual(list(house.red_counts()), [8, 2, 5, 9])
        self.assertEqual([house.red, house.blue, house.is_turned, house.total_moved], [9, 1, False, 7])

    def test_red_counts_tell_of_the_house_as_it_is_when_the_iteration_begins(self):
        house = House(10, red=8)
        counts = house.red_counts()
        house.turn()
        self.assertEqual(next(counts), 8)
        house.undo()
        self.assertEqual(list(counts), [2])
        self.assertEqual(list(house.red_counts()), [8])


class GreatHouses(unittest.TestCase):
    def test_runs(self):
        source = fixed_source(31)
        for number in range(600):
            chairs = source.choice([source.randint(0, 12), source.randint(0, MOST), MOST])
            plan, start = random_plan(source, chairs), source.randint(0, chairs)
            rounds = source.choice([0, 1, 2, 3, source.randint(0, 9), source.randint(0, MOST), MOST - 1, MOST])
            whole = House(chairs, red=start)
            with self.subTest(steps=plan.steps, chairs=chairs, start=start, rounds=rounds):
                carried = whole.run(plan, rounds)
                self.assertEqual(carried, total_carried(plan, chairs, start, rounds))
                self.assertEqual(whole.red, red_chairs(plan, chairs, start, rounds))
                self.assertEqual(whole.red + whole.blue, chairs)
                self.assertEqual(whole.total_moved, carried)
                first = source.choice([0, 1, 2, 3, rounds // 2, rounds, source.randint(0, rounds)])
                first = min(first, rounds)
                parts = House(chairs, red=start)
                self.assertEqual(parts.run(plan, first) + parts.run(plan, rounds - first), carried)
                self.assertEqual(told_by(parts)[:4], told_by(whole)[:4])
                self.assertEqual(parts.history, [("run", plan.steps, first), ("run", plan.steps, rounds - first)])
                self.assertEqual(whole.is_turned, plan.is_turning and rounds % 2 == 1)

    def test_runs_and_other_operations(self):
        source = fixed_source(32)
        for number in range(300):
            chairs = source.choice([MOST, source.randint(0, MOST)])
            red = source.randint(0, chairs)
            house, total, turned = House(chairs, red=red), 0, False
            for each in range(6):
                plan = random_plan(source, chairs, 5)
                rounds = source.choice([1, 1, 2, source.randint(0, MOST)])
                carried = total_carried(plan, chairs, red, rounds)
                red = red_chairs(plan, chairs, red, rounds)
                total += carried
                turned = turned != (plan.is_turning and rounds % 2 == 1)
                if rounds == 1:
                    results = [house.turn() if step == TURN else house.meet(*step) for step in plan.steps]
                    self.assertEqual(sum(result for result in results if result is not None), carried)
                else:
                    self.assertEqual(house.run(plan, rounds), carried)
                self.assertEqual(told_by(house)[:4], (red, chairs - red, total, turned))

    def test_wrong_numbers_of_rounds(self):
        house = House(MOST, red=MOST)
        for rounds in (-1, MOST + 1):
            with self.assertRaises(InvalidNumber):
                house.run(Plan(("blue", MOST)), rounds)
        self.assertEqual(told_by(house), (MOST, 0, 0, False, [], [MOST]))

    def test_much_is_moved(self):
        house = House(MOST)
        plan = Plan(("red", MOST), ("blue", MOST))
        self.assertEqual(house.run(plan, MOST), 2 * MOST * MOST)
        self.assertEqual(house.run(plan, MOST), 2 * MOST * MOST)
        self.assertEqual(house.total_moved, 4 * MOST * MOST)


if __name__ == "__main__":
    unittest.main()
