"""Point 1, for points 10 to 15: nothing that is passed or returned is kept or changed, and calls can be repeated."""

import unittest

from chaircarry.bookings import Alternation, Meeting, Series, Turning, format_bookings, parse_bookings, plan_of
from chaircarry.codes import decode_plan, encode_plan
from chaircarry.daybooks import Daybook
from chaircarry.errors import ChairError, DecodeError, InvalidText
from chaircarry.live import House, Trial
from chaircarry.plans import Plan
from tests.booking_samples import random_samples
from tests.simulation import fixed_source
from tests.test_daybooks import random_text
from tests.twin import all_redone, perform, random_operation, told_by

MOST = 10 ** 18
TURN = ("turn",)


def result_of(call, *arguments):
    """Return what a call returns, or the error that it raises."""
    try:
        return call(*arguments)
    except ChairError as error:
        return error.__class__, vars(error)


class AnyOrder(unittest.TestCase):
    def assert_repeatable(self, source, calls):
        first = [result_of(call) for call in calls]
        order = list(range(len(calls))) * 2
        source.shuffle(order)
        for at in order:
            with self.subTest(at=at):
                self.assertEqual(result_of(calls[at]), first[at])

    def test_bookings(self):
        source = fixed_source(120)
        for number in range(100):
            made = [sample.make() for sample in random_samples(source)]
            text = format_bookings(*made)
            self.assert_repeatable(source, [
                lambda: [list(booking.planned()) for booking in made],
                lambda: [(booking.step_count, booking.line, booking.KIND) for booking in made],
                lambda: plan_of(*made).steps,
                lambda: format_bookings(*made),
                lambda: [list(booking.planned()) for booking in parse_bookings(text)],
                lambda: parse_bookings(text + "\nred 06"),
            ])

    def test_daybooks(self):
        source = fixed_source(121)
        for number in range(200):
            chairs = source.choice([12, MOST])
            text, start = random_text(source, chairs), source.randint(0, chairs)
            daybook = Daybook(text)
            self.assert_repeatable(source, [
                lambda: daybook.row_count, lambda: daybook.check(start), lambda: daybook.filled(start),
                lambda: daybook.fitting_starts(), lambda: daybook.check(0), lambda: daybook.filled(chairs),
                lambda: daybook.check(chairs + 1), lambda: daybook.filled(-1), lambda: Daybook(text).fitting_starts(),
                lambda: Daybook(text + "\n").row_count,
            ])

    def test_codes(self):
        source = fixed_source(122)
        for number in range(100):
            samples = [sample for sample in random_samples(source, 3) if len(sample.steps) <= 20]
            plan = plan_of(*[sample.make() for sample in samples])
            code = encode_plan(plan)
            self.assert_repeatable(source, [
                lambda: encode_plan(plan), lambda: decode_plan(code).steps, lambda: decode_plan(code[:-1]),
                lambda: plan.steps, lambda: decode_plan(code + [0]),
            ])

    def test_houses(self):
        source = fixed_source(123)
        for number in range(150):
            chairs = source.choice([12, MOST])
            red = source.randint(0, chairs)
            operations = [random_operation(source, 12, 6) for each in range(source.randint(0, 6))]
            house = House(chairs, red=red)
            for operation in operations:
                result_of(perform, house, operation)
            for each in range(source.randint(0, 3)):
                house.undo()
            self.assert_repeatable(source, [
                lambda: told_by(house), lambda: all_redone(house), lambda: house.apply(()),
                lambda: house.meet("green", 1), lambda: house.meet("red", MOST), lambda: house.history,
                lambda: house.apply(TURN, ("meet", "red", -1)), lambda: list(house.red_counts()),
                lambda: told_by(House.replay(chairs, red, *house.history)),
            ] if chairs < MOST else [lambda: told_by(house), lambda: all_redone(house), lambda: house.apply(None)])


class ReturnedLists(unittest.TestCase):
    def test_histories(self):
        house = House(10, red=8)
        house.meet("blue", 7)
        house.turn()
        kept = told_by(house)
        house.history.clear()
        house.history.append(("jump",))
        history = house.history
        history[0] = TURN
        del history[1]
        self.assertEqual(told_by(house), kept)
        self.assertEqual([house.undo(), house.undo(), house.undo()], [True, True, False])
        self.assertEqual(history, [TURN])
        self.assertIsNot(house.history, house.history)

    def test_results_of_apply(self):
        house = House(10, red=8)
        results = house.apply(("meet", "blue", 7), TURN)
        results.clear()
        results.append(100)
        self.assertEqual([house.total_moved, house.history], [5, [("meet", "blue", 7), TURN]])

    def test_parsed_bookings(self):
        text = "red 6\nturn"
        parsed = parse_bookings(text)
        parsed.clear()
        self.assertEqual(len(parse_bookings(text)), 2)
        parse_bookings("").append(7)
        self.assertEqual(parse_bookings(""), [])

    def test_lists_of_steps(self):
        for booking in (Meeting("red", 6), Series("red", 6, times=3), Alternation(6, 7), Turning()):
            steps = list(booking.planned())
            kept = list(steps)
            steps.append(TURN)
            steps[0] = ("blue", 1)
            self.assertEqual(list(booking.planned()), kept)
            self.assertEqual([booking.step_count, plan_of(booking).steps], [len(kept), tuple(kept)])

    def test_codes(self):
        plan = Plan(("red", 300))
        code = encode_plan(plan)
        kept = list(code)
        code.clear()
        self.assertEqual(encode_plan(plan), kept)


class Arguments(unittest.TestCase):
    def test_lists_behind_a_star_are_neither_changed_nor_kept(self):
        needs = [6, 7]
        alternation = Alternation(*needs)
        needs[0] = 100
        self.assertEqual([alternation.line, needs], ["alternate 6 7", [100, 7]])
        operations = [("meet", "blue", 7), TURN]
        house = House.replay(10, 8, *operations)
        operations.clear()
        self.assertEqual(house.history, [("meet", "blue", 7), TURN])
        bookings = [alternation, Turning()]
        plan = plan_of(*bookings)
        bookings.pop()
        self.assertEqual(plan.steps, (("red", 6), ("blue", 7), TURN))

    def test_plans_that_were_run(self):
        plan = Plan(("red", 6), TURN)
        house = House(10)
        house.run(plan, 3)
        house.turn()
        house.undo()
        self.assertEqual([plan.steps, plan.is_turning], [(("red", 6), TURN), True])
        self.assertEqual(house.history, [("run", plan.steps, 3)])

    def test_codes_with_errors(self):
        for code in ([99, 2, 0, 6, 2, 121], [99], [], [99, 1, 0, 300]):
            kept = list(code)
            with self.assertRaises(DecodeError):
                decode_plan(code)
            self.assertEqual(code, kept)

    def test_bookings_that_stand_in_a_text(self):
        booking = Series("red", 6, times=3, more=-2)
        format_bookings(booking, booking)
        plan_of(booking, booking)
        self.assertEqual([list(booking.planned()), booking.line], [[("red", 6), ("red", 4), ("red", 2)],
                                                                   "red 6 times 3 more -2"])


class Separate(unittest.TestCase):
    def test_houses_share_nothing(self):
        house, other = House(10, red=8), House(10, red=8)
        house.turn()
        self.assertEqual(told_by(other), (8, 2, 0, False, [], [8]))
        with Trial(other):
            house.undo()
            self.assertIs(other.redo(), False)
        self.assertIs(house.redo(), True)

    def test_series_share_nothing(self):
        first, second = Series("red", 6, times=2), Series("red", 6, times=3, more=1)
        self.assertEqual([first.step_count, second.step_count, Meeting("red", 6).step_count], [2, 3, 1])

    def test_generators_do_not_disturb_each_other(self):
        house = House(10, red=8)
        house.apply(TURN, TURN)
        counts = house.red_counts()
        self.assertEqual([next(counts), list(house.red_counts()), next(counts)], [8, [8, 2, 8], 2])
        booking = Alternation(6, 7)
        self.assertEqual(list(zip(booking.planned(), booking.planned())), [(("red", 6),) * 2, (("blue", 7),) * 2])

    def test_errors_leave_the_next_calls_alone(self):
        for wrong in ("red 06", "red 6\n\n", "alternate"):
            with self.assertRaises(InvalidText):
                parse_bookings(wrong)
            self.assertEqual(format_bookings(*parse_bookings("red 6\nturn")), "red 6\nturn")


if __name__ == "__main__":
    unittest.main()
