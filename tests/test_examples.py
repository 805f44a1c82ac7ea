"""The examples that the document's interface gives."""

import unittest

from chaircarry.bookings import (
    Alternation, Meeting, Series, Turning, format_bookings, parse_bookings, plan_of,
)
from chaircarry.chairs import best_chairs, fewest_chairs, long_run, saving, sparing_chairs
from chaircarry.codes import decode_plan, encode_plan
from chaircarry.daybooks import Daybook
from chaircarry.effects import carryings, first_difference, red_chairs, summary, total_carried
from chaircarry.errors import (
    Contradiction, DaybookError, DecodeError, InvalidBooking, InvalidEvidence, InvalidOperation, InvalidPlan,
    InvalidText, NotEnough, TooFewChairs,
)
from chaircarry.evidence import find_evidence, judge_evidence
from chaircarry.live import House
from chaircarry.observers import StartObserver
from chaircarry.plans import Plan
from chaircarry.simple import simple_plan


class PlanExamples(unittest.TestCase):
    def test_steps_and_is_turning(self):
        plan = Plan(("red", 6), ("turn",), ("red", 7))
        self.assertEqual([plan.steps, plan.is_turning], [(("red", 6), ("turn",), ("red", 7)), True])

    def test_wrong_room(self):
        with self.assertRaises(InvalidPlan) as caught:
            Plan(("red", 6), ("green", 7))
        self.assertEqual(caught.exception.index, 1)

    def test_alternating_and_joined(self):
        steps = Plan.alternating(6, 7).joined(Plan(("turn",))).steps
        self.assertEqual(steps, (("red", 6), ("blue", 7), ("turn",)))


class EffectExamples(unittest.TestCase):
    def setUp(self):
        self.plan = Plan(("red", 6), ("blue", 7))

    def test_total_carried_and_red_chairs(self):
        self.assertEqual(total_carried(self.plan, 10, 8, 1), 5)
        self.assertEqual(total_carried(self.plan, 10, 8, 10 ** 18), 5999999999999999999)
        self.assertEqual(red_chairs(self.plan, 10, 8, 1), 3)

    def test_too_few_chairs(self):
        with self.assertRaises(TooFewChairs) as caught:
            total_carried(self.plan, 6, 8, 1)
        self.assertEqual(caught.exception.index, 1)

    def test_carryings(self):
        self.assertEqual(list(carryings(self.plan, 10, 8, 1, 4)), [0, 5, 3, 3])
        self.assertEqual(list(carryings(self.plan, 10, 8, 10 ** 18 - 1, 10 ** 18)), [3, 3])

    def test_summary(self):
        self.assertEqual(summary(self.plan, 10), (6, 6, 3, 3, False))
        self.assertEqual(summary(Plan(("red", 6), ("turn",)), 10), (6, 10, 0, None, True))

    def test_first_difference(self):
        plan = Plan(("red", 6))
        self.assertEqual(first_difference(plan, Plan(("red", 6), ("blue", 2)), 10), 9)
        self.assertIsNone(first_difference(plan, plan, 10))


class EvidenceExamples(unittest.TestCase):
    def setUp(self):
        self.plan = Plan(("red", 6), ("blue", 7))

    def test_find_and_judge(self):
        plan = self.plan
        found = [find_evidence(plan, 10, 0), judge_evidence(plan, 10, 0, [0, 1]), find_evidence(plan, 10, 8)]
        self.assertEqual(found, [[0, 1], 9, [1]])

    def test_wrong_order(self):
        with self.assertRaises(InvalidEvidence) as caught:
            judge_evidence(self.plan, 10, 0, [1, 0])
        self.assertEqual(caught.exception.index, 1)


class SimpleExamples(unittest.TestCase):
    def test_simple_plan(self):
        plan = Plan(("red", 4), ("red", 6), ("blue", 2), ("blue", 7))
        self.assertEqual(len(simple_plan(plan, 10).steps), 2)


class ChairsExamples(unittest.TestCase):
    def setUp(self):
        self.plan, self.turning = Plan(("red", 6), ("blue", 7)), Plan(("red", 6), ("turn",))

    def test_long_run_and_saving(self):
        found = [long_run(self.plan, 10), saving(self.plan, 10), long_run(self.turning, 10)]
        self.assertEqual(found, [(6, 1), (2, 1), (2, 1)])

    def test_fewest_and_sparing_chairs(self):
        found = [fewest_chairs(self.plan), sparing_chairs(self.plan), sparing_chairs(self.turning)]
        self.assertEqual(found, [7, 13, 12])

    def test_best_chairs(self):
        self.assertEqual([best_chairs(self.plan, 100, 1, 60), best_chairs(self.plan, 130, 1, 60)], [13, 7])


class ObserverExamples(unittest.TestCase):
    def test_what_is_seen(self):
        observer = StartObserver(Plan(("red", 6), ("blue", 7)), 10)
        found = [observer.see(1, 0), observer.possible_starts, observer.see(2, 5), observer.possible_starts]
        self.assertEqual(found, [5, (6, 10), 1, (8, 8)])

    def test_contradiction(self):
        with self.assertRaises(Contradiction):
            StartObserver(Plan(("red", 6), ("blue", 7)), 10).see(4, 2)


class BookingExamples(unittest.TestCase):
    def test_wrong_room(self):
        with self.assertRaises(InvalidBooking):
            Meeting("green", 1)

    def test_series(self):
        series = Series("red", 6, times=3, more=-2)
        found = [list(series.planned()), series.step_count, series.line]
        self.assertEqual(found, [[("red", 6), ("red", 4), ("red", 2)], 3, "red 6 times 3 more -2"])

    def test_plan_of(self):
        self.assertEqual(plan_of(Meeting("red", 6), Turning()).steps, (("red", 6), ("turn",)))

    def test_lines_of_point_10(self):
        lines = [Meeting("red", 6).line, Series("blue", 6, times=3).line, Series("blue", 6, times=3, more=-2).line]
        self.assertEqual(lines, ["red 6", "blue 6 times 3", "blue 6 times 3 more -2"])
        self.assertEqual([Alternation(6, 7, 8).line, Turning().line], ["alternate 6 7 8", "turn"])

    def test_format_bookings(self):
        self.assertEqual(format_bookings(Alternation(6, 7), Turning()), "alternate 6 7\nturn")

    def test_parse_bookings(self):
        kinds = [booking.KIND for booking in parse_bookings("red 6 times 2\nturn")]
        self.assertEqual(kinds, ["series", "turning"])
        with self.assertRaises(InvalidText) as caught:
            parse_bookings("red 06")
        self.assertEqual(caught.exception.row, 0)


class LiveExamples(unittest.TestCase):
    def setUp(self):
        self.house = House(10, red=8)

    def test_house(self):
        house = self.house
        found = [house.red, house.blue, house.total_moved, house.is_turned, house.history]
        self.assertEqual(found, [8, 2, 0, False, []])

    def test_meet(self):
        self.assertEqual([self.house.meet("blue", 7), self.house.red, self.house.blue], [5, 3, 7])

    def test_not_enough(self):
        with self.assertRaises(NotEnough):
            self.house.meet("blue", 11)

    def test_turn(self):
        self.assertIsNone(self.house.turn())
        self.assertEqual([self.house.red, self.house.is_turned], [2, True])

    def test_run(self):
        self.assertEqual(self.house.run(Plan(("red", 6), ("blue", 7)), 10 ** 18), 5999999999999999999)

    def test_red_counts(self):
        self.house.meet("blue", 7)
        self.assertEqual(list(self.house.red_counts()), [8, 3])

    def test_undo_and_redo(self):
        house = self.house
        house.turn()
        self.assertEqual([house.undo(), house.undo(), house.redo(), house.red], [True, False, True, 2])

    def test_apply(self):
        self.assertEqual(self.house.apply(("meet", "blue", 7), ("turn",)), [5, None])

    def test_wrong_operation(self):
        with self.assertRaises(InvalidOperation) as caught:
            self.house.apply(("turn",), ("jump",))
        self.assertEqual(caught.exception.index, 1)

    def test_replay(self):
        self.assertEqual(House.replay(10, 8, ("meet", "blue", 7), ("turn",)).red, 7)


class DaybookExamples(unittest.TestCase):
    def setUp(self):
        self.daybook = Daybook("chairs 10\nred 6 carried ?\nblue 7 carried 3\nred has ?")

    def test_row_count(self):
        self.assertEqual(self.daybook.row_count, 4)

    def test_wrong_row(self):
        with self.assertRaises(DaybookError) as caught:
            Daybook("chairs 10\nred 11 carried 0")
        self.assertEqual(caught.exception.row, 1)

    def test_check(self):
        self.assertEqual([self.daybook.check(8), self.daybook.check(4)], [2, None])

    def test_filled(self):
        self.assertEqual(self.daybook.filled(4), "chairs 10\nred 6 carried 2\nblue 7 carried 3\nred has 3")

    def test_fitting_starts(self):
        self.assertEqual(self.daybook.fitting_starts(), (0, 6))


class CodeExamples(unittest.TestCase):
    def test_encode_plan(self):
        self.assertEqual(encode_plan(Plan(("red", 6), ("turn",))), [99, 2, 0, 6, 2, 120])

    def test_decode_plan(self):
        self.assertEqual(decode_plan([99, 2, 0, 6, 2, 120]).steps, (("red", 6), ("turn",)))

    def test_too_many_steps(self):
        with self.assertRaises(DecodeError) as caught:
            decode_plan([99, 61])
        self.assertEqual(caught.exception.offset, 1)


if __name__ == "__main__":
    unittest.main()
