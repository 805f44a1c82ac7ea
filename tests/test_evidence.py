"""Point 6: evidence that nobody could carry less."""

import itertools
import unittest

from chaircarry.errors import InvalidEvidence, InvalidNumber, TooFewChairs
from chaircarry.evidence import find_evidence, judge_evidence
from chaircarry.plans import Plan
from tests.simulation import fixed_source, places, random_plan, simulate

TURN = ("turn",)
MOST = 10 ** 18


def last_of_each_run(plan, chairs, start):
    """Return the indexes of the meetings that point 6 names."""
    carried = simulate(plan, chairs, start, 1)[0]
    carrying = [(place, index) for index, place in enumerate(places(plan)) if carried[index] > 0]
    return [list(run)[-1][1] for place, run in itertools.groupby(carrying, key=lambda pair: pair[0])]


def first_wrong_item(plan, indexes):
    """Return the index of the first item that is not allowed in evidence, or None."""
    rooms = places(plan)
    for at, index in enumerate(indexes):
        if isinstance(index, bool) or index not in range(len(rooms)) or rooms[index] is None:
            return at
        if at > 0 and (index <= indexes[at - 1] or rooms[index] == rooms[indexes[at - 1]]):
            return at
    return None


def sum_of(plan, chairs, start, indexes):
    """Return the sum that point 6 defines."""
    if len(indexes) == 0:
        return 0
    needs = [plan.steps[index][1] for index in indexes]
    first = needs[0] - (start, chairs - start)[places(plan)[indexes[0]]]
    return max(0, first + sum(before + need - chairs for before, need in zip(needs, needs[1:])))


class FoundEvidence(unittest.TestCase):
    def assert_found(self, plan, chairs, start):
        with self.subTest(steps=plan.steps, chairs=chairs, start=start):
            found = find_evidence(plan, chairs, start)
            self.assertIsInstance(found, list)
            self.assertEqual(found, sorted(set(found)))
            rooms = [places(plan)[index] for index in found]
            self.assertNotIn(None, rooms)
            self.assertTrue(all(before != room for before, room in zip(rooms, rooms[1:])))
            self.assertEqual(found, last_of_each_run(plan, chairs, start))
            carried = sum(simulate(plan, chairs, start, 1)[0])
            self.assertEqual(judge_evidence(plan, chairs, start, found), carried)
            self.assertEqual(sum_of(plan, chairs, start, found), carried)

    def test_random_plans(self):
        source = fixed_source(60)
        for number in range(2500):
            chairs = source.choice([source.randint(0, 3), source.randint(0, 12), source.randint(0, 1000), MOST])
            self.assert_found(random_plan(source, chairs), chairs, source.randint(0, chairs))

    def test_long_plans(self):
        source = fixed_source(61)
        for number in range(150):
            chairs = source.choice([source.randint(1, 40), MOST])
            self.assert_found(random_plan(source, chairs, 60, 40), chairs, source.randint(0, chairs))

    def test_all_starts_of_small_houses(self):
        source = fixed_source(62)
        for number in range(200):
            chairs = source.randint(0, 6)
            plan = random_plan(source, chairs)
            for start in range(chairs + 1):
                self.assert_found(plan, chairs, start)

    def test_known_evidence(self):
        self.assertEqual(find_evidence(Plan(), 10, 4), [])
        self.assertEqual(find_evidence(Plan(TURN, TURN), 10, 4), [])
        self.assertEqual(find_evidence(Plan(("red", 4)), 10, 4), [])
        self.assertEqual(find_evidence(Plan(("red", 5)), 10, 4), [0])
        self.assertEqual(find_evidence(Plan(("blue", 7)), 10, 4), [0])
        # The last meeting for which chairs are carried, not the last one of all, and not the first one.
        self.assertEqual(find_evidence(Plan(("red", 5), ("red", 6), ("red", 6), ("blue", 4)), 10, 4), [1])
        # Meetings between them for which nothing is carried do not part a run.
        self.assertEqual(find_evidence(Plan(("red", 5), ("blue", 2), ("red", 7), ("blue", 9)), 10, 4), [2, 3])

    def test_rooms_are_meant_as_such(self):
        self.assertEqual(find_evidence(Plan(("red", 6), TURN, ("red", 7)), 10, 0), [0, 2])
        self.assertEqual(find_evidence(Plan(("red", 6), TURN, ("blue", 7)), 10, 0), [2])
        self.assertEqual(find_evidence(Plan(TURN, ("red", 6), TURN, ("red", 7)), 10, 10), [1, 3])
        self.assertEqual(judge_evidence(Plan(("red", 6), TURN, ("red", 7)), 10, 0, [0, 2]), 9)
        self.assertEqual(judge_evidence(Plan(TURN, ("red", 6)), 10, 9, [1]), 5)


class JudgedEvidence(unittest.TestCase):
    def assert_judged(self, plan, chairs, start, indexes):
        with self.subTest(steps=plan.steps, chairs=chairs, start=start, indexes=indexes):
            given = list(indexes)
            wrong = first_wrong_item(plan, indexes)
            if wrong is None:
                found = judge_evidence(plan, chairs, start, indexes)
                self.assertEqual(found, sum_of(plan, chairs, start, indexes))
                self.assertLessEqual(found, sum(simulate(plan, chairs, start, 1)[0]))
            else:
                with self.assertRaises(InvalidEvidence) as caught:
                    judge_evidence(plan, chairs, start, indexes)
                self.assertEqual(caught.exception.index, wrong)
            self.assertEqual(indexes, given)

    def test_all_lists_of_short_plans(self):
        source = fixed_source(63)
        for number in range(60):
            chairs = source.choice([source.randint(0, 8), MOST])
            plan = random_plan(source, chairs, 5)
            start = source.randint(0, chairs)
            for many in range(len(plan.steps) + 1):
                for indexes in itertools.combinations(range(len(plan.steps)), many):
                    self.assert_judged(plan, chairs, start, list(indexes))

    def test_random_lists(self):
        source = fixed_source(64)
        for number in range(2500):
            chairs = source.choice([source.randint(0, 12), MOST])
            plan = random_plan(source, chairs, 12)
            many = len(plan.steps)
            indexes = [source.randint(-1, many) for each in range(source.randint(0, 4))]
            if source.randrange(2) == 0:
                indexes = sorted(indexes)
            self.assert_judged(plan, chairs, source.randint(0, chairs), indexes)

    def test_lists_in_turn(self):
        source = fixed_source(65)
        for number in range(800):
            chairs = source.choice([source.randint(0, 12), MOST])
            plan = random_plan(source, chairs, 60, 10)
            indexes = []
            for index, place in enumerate(places(plan)):
                fits = place is not None and (not indexes or places(plan)[indexes[-1]] != place)
                if fits and source.randrange(3) > 0:
                    indexes.append(index)
            start = source.randint(0, chairs)
            self.assertIsNone(first_wrong_item(plan, indexes))
            self.assert_judged(plan, chairs, start, indexes)
            # One of the items is made wrong.
            if indexes:
                at = source.randrange(len(indexes))
                changed = source.choice([indexes[at] - 2, indexes[at - 1], -1, len(plan.steps), indexes[at] + 1, True])
                self.assert_judged(plan, chairs, start, indexes[:at] + [changed] + indexes[at + 1:])

    def test_sums_below_0(self):
        plan = Plan(("red", 2), ("blue", 3))
        self.assertEqual(judge_evidence(plan, 10, 0, []), 0)
        self.assertEqual(judge_evidence(plan, 10, 9, [0]), 0)
        self.assertEqual(judge_evidence(plan, 10, 0, [0, 1]), 0)
        self.assertEqual(judge_evidence(plan, 10, 0, [0]), 2)
        self.assertEqual(judge_evidence(plan, 10, 10, [1]), 3)
        # A first number below 0 counts, too.
        self.assertEqual(judge_evidence(Plan(("red", 6), ("blue", 7)), 10, 8, [0, 1]), 1)

    def test_wrong_items(self):
        plan = Plan(("red", 6), TURN, ("red", 7), ("red", 8), ("blue", 3))
        wrong = [
            ([1], 0), ([5], 0), ([-1], 0), ([-5], 0), ([MOST], 0), ([True], 0), ([False], 0),
            ([0, 1], 1), ([0, 5], 1), ([0, -1], 1), ([0, 0], 1), ([2, 0], 1), ([2, 3], 1), ([0, 4], 1),
            ([0, 2, 3], 2), ([0, 3, 2], 2), ([0, 2, 4, 4], 3), ([0, 2, 4, 5], 3), ([0, True], 1), ([1, -1], 0),
        ]
        for indexes, at in wrong:
            with self.subTest(indexes=indexes):
                with self.assertRaises(InvalidEvidence) as caught:
                    judge_evidence(plan, 10, 4, indexes)
                self.assertEqual(caught.exception.index, at)
        self.assertEqual(judge_evidence(plan, 10, 4, [0, 2, 4]), 2 + 3 + 0)
        self.assertEqual(judge_evidence(plan, 10, 4, [0, 3]), 2 + 4)

    def test_plans_without_meetings_have_no_evidence(self):
        for plan in (Plan(), Plan(TURN)):
            self.assertEqual(judge_evidence(plan, 10, 4, []), 0)
            with self.assertRaises(InvalidEvidence) as caught:
                judge_evidence(plan, 10, 4, [0])
            self.assertEqual(caught.exception.index, 0)

    def test_errors_of_houses_come_first(self):
        plan = Plan(("red", 6), ("blue", 7))
        for indexes in ([0, 1], [5], [1, 0]):
            with self.assertRaises(InvalidNumber):
                judge_evidence(plan, -1, 0, indexes)
            with self.assertRaises(TooFewChairs) as caught:
                judge_evidence(plan, 6, 9, indexes)
            self.assertEqual(caught.exception.index, 1)
            with self.assertRaises(InvalidNumber):
                judge_evidence(plan, 10, 11, indexes)


if __name__ == "__main__":
    unittest.main()
