"""Point 10: bookings."""

import inspect
import unittest

from chaircarry import bookings
from chaircarry.bookings import Alternation, Booking, Meeting, Series, Turning, plan_of
from chaircarry.errors import InvalidBooking, InvalidPlan
from chaircarry.plans import Plan
from tests.booking_samples import MOST, alternation, meeting, random_sample, random_samples, series, turning
from tests.simulation import fixed_source

KINDS = {Meeting: "meeting", Series: "series", Alternation: "alternation", Turning: "turning"}
WRONG_NEEDS = [-1, MOST + 1, -MOST, MOST * 10, 10 ** 5000, True, False]


class Kinds(unittest.TestCase):
    def test_class_values(self):
        self.assertEqual(Booking.KIND, "booking")
        for kind, word in KINDS.items():
            self.assertEqual(kind.KIND, word)
            self.assertEqual(vars(kind)["KIND"], word)

    def test_families(self):
        self.assertTrue(issubclass(Series, Meeting))
        for kind in KINDS:
            self.assertTrue(issubclass(kind, Booking))
        for kind in (Alternation, Turning):
            self.assertFalse(issubclass(kind, Meeting))
        self.assertFalse(issubclass(Meeting, Series))

    def test_interface(self):
        for name in ("Booking", "Meeting", "Series", "Alternation", "Turning", "plan_of", "format_bookings",
                     "parse_bookings"):
            self.assertEqual(getattr(bookings, name).__module__, "chaircarry.bookings")
        self.assertTrue(inspect.isgeneratorfunction(vars(Booking)["planned"]))
        self.assertIsInstance(vars(Booking)["step_count"], property)
        self.assertIsInstance(vars(Booking)["line"], property)

    def test_parameters(self):
        self.assertEqual(Meeting(room="red", need=6).line, "red 6")
        self.assertEqual(Series(room="red", need=6, times=2, more=1).line, "red 6 times 2 more 1")
        with self.assertRaises(TypeError):
            Series("red", 6)
        with self.assertRaises(TypeError):
            Series("red", 6, 2)
        with self.assertRaises(TypeError):
            Series("red", 6, 2, 1)


class Telling(unittest.TestCase):
    def assert_tells(self, sample):
        booking = sample.make()
        with self.subTest(line=sample.line):
            self.assertEqual(booking.KIND, sample.kind)
            self.assertEqual(list(booking.planned()), sample.steps)
            self.assertEqual(booking.step_count, len(sample.steps))
            self.assertEqual(booking.line, sample.line)
            self.assertTrue(all(isinstance(step, tuple) for step in booking.planned()))

    def test_random_bookings(self):
        source = fixed_source(10)
        for number in range(1500):
            self.assert_tells(random_sample(source))

    def test_edges(self):
        for sample in [
            meeting("red", 0), meeting("blue", MOST), turning(),
            series("red", 6, 1, 0), series("blue", 6, 60, 0), series("red", 0, 60, 0), series("blue", MOST, 60, 0),
            series("red", 6, 4, -2), series("red", 59, 60, -1), series("blue", MOST - 59, 60, 1),
            series("red", MOST, 2, -MOST), series("blue", 0, 2, MOST), series("red", 6, 3, -2), series("blue", 6, 3, 1),
            series("red", 6, 1, 5), series("red", 6, 1, -7), series("blue", 6, 1, MOST * 2), series("red", 0, 1, -1),
            alternation(6), alternation(0), alternation(6, 7), alternation(6, 7, 8), alternation(0, MOST),
            alternation(*range(60)), alternation(*range(59)), alternation(*[MOST] * 60),
        ]:
            self.assert_tells(sample)

    def test_more_may_be_of_any_length_if_there_is_no_further_meeting(self):
        digits = "1" + "0" * 17 + "2" + "0" * 4000 + "34" + "0" * 1000 + "5"
        number = 0
        for digit in digits:
            number = number * 10 + int(digit)
        self.assertEqual(Series("red", 6, times=1, more=number).line, "red 6 times 1 more " + digits)
        self.assertEqual(Series("red", 6, times=1, more=-number).line, "red 6 times 1 more -" + digits)
        self.assertEqual(list(Series("red", 6, times=1, more=number).planned()), [("red", 6)])
        with self.assertRaises(InvalidBooking):
            Series("red", 6, times=2, more=number)

    def test_planned_begins_anew_each_time(self):
        booking = Series("red", 6, times=3, more=-2)
        first, second = booking.planned(), booking.planned()
        self.assertEqual([next(first), next(second), next(first)], [("red", 6), ("red", 6), ("red", 4)])
        self.assertEqual([list(first), list(second)], [[("red", 2)], [("red", 4), ("red", 2)]])


class Plans(unittest.TestCase):
    def test_random_bookings(self):
        source = fixed_source(11)
        found = {True: 0, False: 0}
        for number in range(800):
            samples = random_samples(source)
            steps = [step for sample in samples for step in sample.steps]
            made = [sample.make() for sample in samples]
            found[len(steps) > 60] += 1
            with self.subTest(lines=[sample.line for sample in samples]):
                if len(steps) > 60:
                    with self.assertRaises(InvalidPlan) as caught:
                        plan_of(*made)
                    self.assertEqual(caught.exception.index, 60)
                else:
                    self.assertIsInstance(plan_of(*made), Plan)
                    self.assertEqual(plan_of(*made).steps, tuple(steps))
        self.assertGreater(min(found.values()), 100)

    def test_edges(self):
        self.assertEqual(plan_of().steps, ())
        full = Series("red", 1, times=60)
        self.assertEqual(plan_of(full).steps, (("red", 1),) * 60)
        self.assertEqual(plan_of(Series("red", 1, times=59), Turning()).steps, (("red", 1),) * 59 + (("turn",),))
        for others in ([full, Turning()], [Turning(), full], [full, full], [Turning()] * 61, [Turning()] * 100):
            with self.assertRaises(InvalidPlan) as caught:
                plan_of(*others)
            self.assertEqual(caught.exception.index, 60)

    def test_a_booking_may_stand_several_times(self):
        booking = Alternation(6, 7)
        steps = (("red", 6), ("blue", 7))
        self.assertEqual(plan_of(booking, booking).steps, steps * 2)
        self.assertEqual(plan_of(booking, Turning(), booking).steps, steps + (("turn",),) + steps)


class WrongBookings(unittest.TestCase):
    def assert_invalid(self, kind, *arguments, **keywords):
        with self.subTest(kind=kind.KIND, keywords=list(keywords)), self.assertRaises(InvalidBooking):
            kind(*arguments, **keywords)

    def test_rooms(self):
        for room in ("green", "Red", "", "RED", " red", "redblue", "r", "turn", "alternate", "red 6", None):
            self.assert_invalid(Meeting, room, 6)
            self.assert_invalid(Series, room, 6, times=3)
            self.assert_invalid(Series, room, 6, times=1, more=2)

    def test_needs(self):
        for need in WRONG_NEEDS:
            for room in ("red", "blue"):
                self.assert_invalid(Meeting, room, need)
                self.assert_invalid(Series, room, need, times=3)
                self.assert_invalid(Series, room, need, times=1)
            self.assert_invalid(Alternation, need)
            self.assert_invalid(Alternation, 6, need)
            self.assert_invalid(Alternation, need, 6)
            self.assert_invalid(Alternation, *range(59), need)

    def test_first_needs_of_a_series_out_of_range(self):
        self.assert_invalid(Series, "red", -1, times=2, more=1)
        self.assert_invalid(Series, "red", -1, times=1, more=1)
        self.assert_invalid(Series, "red", MOST + 1, times=2, more=-1)
        self.assert_invalid(Series, "red", MOST + 1, times=1, more=-1)

    def test_further_needs_of_a_series_out_of_range(self):
        for times in range(2, 61):
            for more in (1, 2, 1000):
                edge = more * (times - 1)
                for room in ("red", "blue"):
                    self.assertEqual(Series(room, edge, times=times, more=-more).step_count, times)
                    self.assert_invalid(Series, room, edge - 1, times=times, more=-more)
                    self.assertEqual(Series(room, MOST - edge, times=times, more=more).step_count, times)
                    self.assert_invalid(Series, room, MOST - edge + 1, times=times, more=more)
        self.assert_invalid(Series, "red", 0, times=2, more=MOST + 1)
        self.assert_invalid(Series, "red", MOST, times=2, more=-MOST - 1)

    def test_times(self):
        for times in (0, 61, -1, -60, 62, MOST, 10 ** 5000, True, False):
            self.assert_invalid(Series, "red", 6, times=times)
            self.assert_invalid(Series, "blue", 0, times=times, more=1)

    def test_more(self):
        for more in (True, False):
            for times in (1, 2, 3):
                self.assert_invalid(Series, "red", 6, times=times, more=more)

    def test_numbers_of_needs(self):
        self.assert_invalid(Alternation)
        self.assert_invalid(Alternation, *range(61))
        self.assert_invalid(Alternation, *range(62))
        self.assert_invalid(Alternation, *range(200))
        self.assertEqual(Alternation(*range(60)).step_count, 60)

    def test_random_series(self):
        source = fixed_source(12)
        found = {True: 0, False: 0}
        for number in range(3000):
            need = source.choice([source.randint(-1, 12), MOST + source.randint(-12, 1)])
            times, more = source.randint(0, 6), source.randint(-5, 5)
            right = times > 0 and all(0 <= need + at * more <= MOST for at in range(times))
            found[right] += 1
            if right:
                sample = series("red", need, times, more)
                self.assertEqual(list(sample.make().planned()), sample.steps)
            else:
                self.assert_invalid(Series, "red", need, times=times, more=more)
        self.assertGreater(min(found.values()), 500)


if __name__ == "__main__":
    unittest.main()
