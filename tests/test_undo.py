"""Point 13: reverting, performing again, performing many operations at once, and trying."""

import unittest

from chaircarry.errors import (
    ChairError, InvalidBooking, InvalidNumber, InvalidOperation, InvalidPlan, NotEnough, TooFewChairs,
)
from chaircarry.live import House, Trial
from chaircarry.plans import Plan
from tests.simulation import fixed_source
from tests.twin import Twin, all_redone, perform, random_operation, told_by

MOST = 10 ** 18
TURN = ("turn",)
STEPS = (("red", 6), TURN)
WRONG_OPERATIONS = [
    (), None, "turn", "meet", "run", 7, True, [], ["turn"], ["meet", "red", 6], {"turn": 1}, b"turn",
    ("jump",), ("Turn",), ("",), (None,), (7,), ("undo",), ("redo",), ("turns",), (("turn",),), (["turn"],),
    ("turn", 1), ("turn", None), ("turn", "red"), ("turn", "red", 6), ("turn", ()), ("turn", "turn"),
    ("meet",), ("meet", "red"), ("meet", 6), ("meet", "red", 6, 7), ("meet", "red", 6, None), (["meet"], "red", 6),
    ("red", 6), ("blue", 6), ("Meet", "red", 6), ("meets", "red", 6), ("hold", "red", 6), (None, "red", 6),
    ("run",), ("run", STEPS), ("run", 1), ("run", STEPS, 1, 1), ("Run", STEPS, 1), ("do", STEPS, 1), ("run", 1, STEPS),
    ("run", list(STEPS), 1), ("run", [], 1), ("run", None, 1), ("run", "", 1), ("run", "turn", 1), ("run", 7, 1),
    ("run", ("red", 6), 1), ("run", TURN, 1), ("run", Plan(*STEPS), 1), ("run", {}, 1),
    ("run", (["red", 6],), 1), ("run", (("green", 6),), 1), ("run", (("red", -1),), 1), ("run", (("red", MOST + 1),), 1),
    ("run", (("red", True),), 1), ("run", (("red",),), 1), ("run", (("red", 6, 7),), 1), ("run", (("turn", 6),), 1),
    ("run", ((),), 1), ("run", (None,), 1), ("run", ("turn",), 1), ("run", (TURN, ("blue", "6")), 1),
    ("run", (TURN,) * 61, 1), ("run", (("red", 6),) * 62, 1), ("run", (TURN,) * 60 + (None,), 0),
]


class BackAndForth(unittest.TestCase):
    def assert_same(self, house, twin):
        self.assertEqual(told_by(house), twin.told())

    def test_random_houses(self):
        source = fixed_source(40)
        for number in range(400):
            chairs = source.randint(0, 20)
            red = source.randint(0, chairs)
            house, twin = House(chairs, red=red), Twin(chairs, red)
            for each in range(source.randint(1, 14)):
                kind = source.randrange(7)
                with self.subTest(chairs=chairs, red=red, done=twin.done, undone=twin.undone, kind=kind):
                    if kind <= 1:
                        self.assertIs(house.undo(), twin.undo())
                    elif kind == 2:
                        self.assertIs(house.redo(), twin.redo())
                    elif kind == 3:
                        operations = [random_operation(source, chairs, 8) for at in range(source.randint(0, 3))]
                        self.apply_both(house, twin, operations)
                    else:
                        self.perform_both(house, twin, random_operation(source, chairs))
                    self.assert_same(house, twin)
            self.walk_back_and_forth(house, twin)

    def perform_both(self, house, twin, operation):
        expected = twin.expected_error(operation)
        if expected is None:
            self.assertEqual(perform(house, operation), twin.do(operation))
        else:
            with self.assertRaises(ChairError) as caught:
                perform(house, operation)
            self.assertEqual(caught.exception.__class__.__name__, expected[0])

    def apply_both(self, house, twin, operations):
        found = [expected for expected in map(twin.expected_error, operations) if expected is not None]
        if not found:
            self.assertEqual(house.apply(*operations), [twin.do(operation) for operation in operations])
        else:
            with self.assertRaises(ChairError) as caught:
                house.apply(*operations)
            self.assertEqual(caught.exception.__class__.__name__, found[0][0])
            self.assertEqual(getattr(caught.exception, "index", None), found[0][1])

    def walk_back_and_forth(self, house, twin):
        while twin.redo():
            self.assertIs(house.redo(), True)
            self.assert_same(house, twin)
        self.assertIs(house.redo(), False)
        self.assert_same(house, twin)
        while twin.undo():
            self.assertIs(house.undo(), True)
            self.assert_same(house, twin)
        self.assertIs(house.undo(), False)
        self.assert_same(house, twin)

    def test_nothing_to_revert(self):
        house = House(10, red=8)
        self.assertIs(house.undo(), False)
        self.assertIs(house.redo(), False)
        self.assertEqual(told_by(house), (8, 2, 0, False, [], [8]))
        house.turn()
        self.assertIs(house.redo(), False)
        self.assertEqual(house.history, [TURN])

    def test_redo_stays_possible_after_an_error(self):
        for wrong, error in [
            (lambda house: house.meet("green", 1), InvalidBooking), (lambda house: house.meet("red", -1), InvalidBooking),
            (lambda house: house.meet("red", 11), NotEnough), (lambda house: house.run(Plan(("red", 11)), 1), TooFewChairs),
            (lambda house: house.run(Plan(("red", 1)), -1), InvalidNumber), (lambda house: house.apply(()), InvalidOperation),
            (lambda house: house.apply(TURN, ("meet", "red", 11)), NotEnough),
            (lambda house: Plan(("red", 6), ("green", 6)), InvalidPlan),
        ]:
            house = House(10, red=8)
            house.meet("blue", 7)
            house.turn()
            house.undo()
            with self.assertRaises(error):
                wrong(house)
            self.assertEqual(told_by(house), (3, 7, 5, False, [("meet", "blue", 7)], [8, 3]))
            self.assertIs(house.redo(), True)
            self.assertEqual(told_by(house), (7, 3, 5, True, [("meet", "blue", 7), TURN], [8, 3, 7]))
            self.assertEqual([house.redo(), house.undo(), house.undo(), house.undo()], [False, True, True, False])

    def test_redo_ends_after_a_new_operation(self):
        for new in [
            lambda house: house.meet("red", 0), lambda house: house.turn(), lambda house: house.run(Plan(), 0),
            lambda house: house.apply(TURN), lambda house: house.apply(("run", (), 0)),
        ]:
            house = House(10, red=8)
            house.meet("blue", 7)
            house.turn()
            house.undo()
            house.undo()
            new(house)
            before = told_by(house)
            self.assertIs(house.redo(), False)
            self.assertEqual(told_by(house), before)
            self.assertEqual(len(house.history), 1)

    def test_redo_stays_possible_after_applying_nothing(self):
        house = House(10, red=8)
        house.turn()
        house.undo()
        self.assertEqual(house.apply(), [])
        self.assertEqual([house.redo(), house.is_turned], [True, True])


class Applying(unittest.TestCase):
    def test_results(self):
        house = House(10, red=8)
        results = house.apply(("meet", "blue", 7), TURN, ("run", (("red", 6), ("blue", 7)), 3), ("meet", "red", 0))
        self.assertEqual(results, [5, None, 16, 0])
        self.assertIsInstance(results, list)
        self.assertEqual(house.total_moved, 21)
        self.assertEqual(House(10).apply(), [])

    def test_each_operation_is_reverted_alone(self):
        house = House(10, red=8)
        house.apply(("meet", "blue", 7), TURN)
        self.assertIs(house.undo(), True)
        self.assertEqual(house.history, [("meet", "blue", 7)])

    def test_operations_of_a_wrong_form(self):
        for wrong in WRONG_OPERATIONS:
            for before in range(3):
                house = House(10, red=8)
                house.meet("blue", 7)
                house.turn()
                house.undo()
                operations = [TURN, ("meet", "red", 11)][:before]
                with self.subTest(wrong=wrong, before=before), self.assertRaises(InvalidOperation) as caught:
                    house.apply(*operations, wrong, ("meet", "red", 11), ())
                self.assertEqual(caught.exception.index, before)
                self.assertEqual(told_by(house), (3, 7, 5, False, [("meet", "blue", 7)], [8, 3]))
                self.assertEqual([house.redo(), house.is_turned], [True, True])

    def test_operations_of_the_right_form(self):
        full = (("red", 6), TURN) * 30
        for right in [
            TURN, ("meet", "red", 0), ("meet", "blue", 10), ("run", (), 0), ("run", (), MOST), ("run", STEPS, 1),
            ("run", full, 7), ("run", (TURN,), 1),
        ]:
            house, twin = House(10, red=8), House(10, red=8)
            self.assertEqual(house.apply(right), [perform(twin, right)])
            self.assertEqual(told_by(house), told_by(twin))
            self.assertEqual(house.history, [right])

    def test_operations_that_raise_errors(self):
        for wrong, error, attributes in [
            (("meet", "red", 11), NotEnough, {}), (("meet", "blue", MOST), NotEnough, {}),
            (("meet", "green", 6), InvalidBooking, {}), (("meet", "green", 11), InvalidBooking, {}),
            (("meet", "red", -1), InvalidBooking, {}), (("meet", "red", MOST + 1), InvalidBooking, {}),
            (("meet", "red", True), InvalidBooking, {}), (("meet", None, 6), InvalidBooking, {}),
            (("run", (("red", 11),), 1), TooFewChairs, {"index": 0}), (("run", (("red", 11),), -1), TooFewChairs, {"index": 0}),
            (("run", (TURN, TURN, ("blue", MOST)), 0), TooFewChairs, {"index": 2}),
            (("run", STEPS, -1), InvalidNumber, {}), (("run", STEPS, MOST + 1), InvalidNumber, {}),
            (("run", (), -1), InvalidNumber, {}), (("run", STEPS, True), InvalidNumber, {}),
        ]:
            for before in ([], [TURN], [TURN, ("meet", "red", 9), ("run", STEPS, MOST)]):
                house = House(10, red=8)
                house.apply(("meet", "blue", 7), TURN, ("meet", "red", 9), TURN)
                house.undo()
                house.undo()
                kept, redone = told_by(house), all_redone(house)
                with self.subTest(wrong=wrong, before=before), self.assertRaises(error) as caught:
                    house.apply(*before, wrong, ("meet", "green", 1))
                self.assertIs(caught.exception.__class__, error)
                self.assertEqual(vars(caught.exception), attributes)
                self.assertEqual(told_by(house), kept)
                self.assertEqual(all_redone(house), redone)
                self.assertEqual(len(redone), 2)
                self.assertEqual([house.undo(), house.undo(), house.undo()], [True, True, False])


class Replaying(unittest.TestCase):
    def test_histories(self):
        source = fixed_source(41)
        for number in range(300):
            chairs = source.choice([source.randint(0, 20), MOST])
            red = source.randint(0, chairs)
            house = House(chairs, red=red)
            for each in range(source.randint(0, 8)):
                try:
                    perform(house, random_operation(source, chairs))
                except ChairError:
                    house.undo()
            other = House.replay(chairs, red, *house.history)
            self.assertIsInstance(other, House)
            self.assertEqual(told_by(other), told_by(house))
            self.assertEqual(House(chairs, red=red).apply(*house.history)[:0], [])
            while house.undo():
                self.assertIs(other.undo(), True)
                self.assertEqual(told_by(other), told_by(house))
            self.assertIs(other.undo(), False)

    def test_errors(self):
        for chairs, red in ((-1, 0), (MOST + 1, 0), (True, 0), (10, -1), (10, 11), (10, True)):
            for operations in ([], [()], [("meet", "red", 11)]):
                with self.assertRaises(InvalidNumber):
                    House.replay(chairs, red, *operations)
        with self.assertRaises(InvalidOperation) as caught:
            House.replay(10, 8, TURN, ("meet", "red", 11), ("jump",))
        self.assertEqual(caught.exception.index, 2)
        with self.assertRaises(NotEnough):
            House.replay(10, 8, TURN, ("meet", "red", 11), ("run", STEPS, -1))
        with self.assertRaises(TooFewChairs) as caught:
            House.replay(10, 8, TURN, ("run", (TURN, ("red", 11)), -1))
        self.assertEqual(caught.exception.index, 1)

    def test_without_operations(self):
        self.assertEqual(told_by(House.replay(10, 8)), (8, 2, 0, False, [], [8]))


class Trying(unittest.TestCase):
    def random_use(self, source, house):
        """Use a house in any way, nested trials included."""
        for each in range(source.randint(0, 6)):
            kind = source.randrange(8)
            if kind <= 1:
                house.undo()
            elif kind == 2:
                house.redo()
            elif kind == 3:
                with Trial(house):
                    self.random_use(source, house)
            else:
                try:
                    house.apply(*[random_operation(source, 12, 9) for at in range(source.randint(0, 3))])
                except ChairError:
                    continue

    def test_random_houses(self):
        source = fixed_source(42)
        for number in range(300):
            house = House(12, red=source.randint(0, 12))
            self.random_use(source, house)
            before, redone = told_by(house), all_redone(house)
            try:
                with Trial(house):
                    self.random_use(source, house)
                    if number % 3 == 0:
                        house.meet("red", 13)
                    if number % 3 == 1:
                        raise KeyError(number)
                left_by = None
            except (NotEnough, KeyError) as error:
                left_by = error.__class__
            self.assertEqual(left_by, (NotEnough, KeyError, None)[number % 3])
            self.assertEqual(told_by(house), before)
            self.assertEqual(all_redone(house), redone)
            for many in range(len(house.history), -1, -1):
                self.assertEqual(len(house.history), many)
                self.assertIs(house.undo(), many > 0)

    def test_what_happens_in_the_block_is_in_effect_there(self):
        house = House(10, red=8)
        house.turn()
        with Trial(house):
            self.assertEqual(house.meet("red", 7), 5)
            self.assertEqual(told_by(house), (7, 3, 5, True, [TURN, ("meet", "red", 7)], [8, 2, 7]))
        self.assertEqual(told_by(house), (2, 8, 0, True, [TURN], [8, 2]))
        self.assertIs(house.redo(), False)

    def test_what_was_reverted_before_can_be_performed_again(self):
        house = House(10, red=8)
        house.turn()
        house.undo()
        with Trial(house):
            house.meet("red", 9)
            self.assertIs(house.redo(), False)
        self.assertEqual([house.undo(), house.redo(), house.is_turned], [False, True, True])

    def test_what_was_performed_again_or_reverted_in_the_block(self):
        house = House(10, red=8)
        house.apply(TURN, ("meet", "blue", 10))
        with Trial(house):
            house.undo()
            house.undo()
            house.meet("red", 10)
        self.assertEqual(house.history, [TURN, ("meet", "blue", 10)])
        house.undo()
        with Trial(house):
            self.assertIs(house.redo(), True)
        self.assertEqual([house.history, house.redo(), house.redo()], [[TURN], True, False])

    def test_the_beginning_of_the_block_counts(self):
        house = House(10, red=8)
        trial = Trial(house)
        house.turn()
        with trial:
            house.undo()
        self.assertEqual(house.history, [TURN])
        house.meet("red", 9)
        with trial:
            house.turn()
        self.assertEqual(house.history, [TURN, ("meet", "red", 9)])

    def test_one_trial_around_nested_blocks(self):
        house = House(10, red=8)
        trial = Trial(house)
        with trial:
            house.turn()
            with trial:
                house.meet("red", 9)
                with trial:
                    house.meet("blue", 9)
                self.assertEqual(house.history, [TURN, ("meet", "red", 9)])
            self.assertEqual(house.history, [TURN])
        self.assertEqual(house.history, [])

    def test_errors_leave_the_block(self):
        house = House(10, red=8)
        for error in (ValueError, NotEnough, KeyboardInterrupt):
            with self.assertRaises(error):
                with Trial(house):
                    house.turn()
                    raise error()
            self.assertEqual(told_by(house), (8, 2, 0, False, [], [8]))

    def test_other_houses_are_left_alone(self):
        house, other = House(10, red=8), House(10, red=8)
        with Trial(house):
            house.turn()
            other.turn()
        self.assertEqual([house.history, other.history], [[], [TURN]])

    def test_leaving_the_block_by_return(self):
        house = House(10, red=8)

        def tried():
            with Trial(house):
                return house.meet("blue", 7)

        self.assertEqual([tried(), tried(), house.red], [5, 5, 8])


if __name__ == "__main__":
    unittest.main()
