import unittest

from chaircarry.errors import InvalidPlan
from chaircarry.plans import Plan
from tests.simulation import fixed_source, random_step

TURN = ("turn",)
MOST = 10 ** 18

WRONG_STEPS = [
    ("red", -1),
    ("blue", -1),
    ("red", MOST + 1),
    ("blue", MOST + 1),
    ("red", True),
    ("blue", False),
    ("red", "6"),
    ("red", 6.0),
    ("red", None),
    ("red", (6,)),
    ("red",),
    ("red", 6, 7),
    ("blue",),
    ("turn", 1),
    ("turn", None),
    ("turn", 0, 0),
    ("green", 6),
    ("Red", 6),
    ("reds", 6),
    ("", 6),
    ("Turn",),
    (TURN,),
    ((),),
    (6, "red"),
    (6,),
    (None, 6),
    (["red"], 6),
    (),
    ["red", 6],
    ["turn"],
    "turn",
    "red",
    "red 6",
    6,
    None,
    True,
    {"red": 6},
]


class PlanTest(unittest.TestCase):
    def assert_invalid(self, index, call, *arguments):
        with self.assertRaises(InvalidPlan) as caught:
            call(*arguments)
        self.assertEqual(caught.exception.index, index)

    def test_limits(self):
        self.assertEqual([Plan.MAX_STEPS, Plan.MAX_CHAIRS], [60, 10 ** 18])
        self.assertEqual([Plan().MAX_STEPS, Plan().MAX_CHAIRS], [60, 10 ** 18])

    def test_interface_is_defined_in_the_class(self):
        self.assertEqual(Plan.__module__, "chaircarry.plans")
        self.assertIsInstance(vars(Plan)["steps"], property)
        self.assertIsInstance(vars(Plan)["is_turning"], property)
        self.assertIsInstance(vars(Plan)["alternating"], classmethod)
        self.assertIn("joined", vars(Plan))

    def test_plans_of_0_to_60_steps(self):
        source = fixed_source(2)
        for many in range(61):
            steps = [random_step(source, MOST) for number in range(many)]
            plan = Plan(*steps)
            self.assertEqual(plan.steps, tuple(steps))
            self.assertIsInstance(plan.steps, tuple)
            self.assertIs(plan.is_turning, steps.count(TURN) % 2 == 1)

    def test_needs_at_their_limits(self):
        for room in ("red", "blue"):
            for need in (0, 1, MOST - 1, MOST):
                self.assertEqual(Plan((room, need)).steps, ((room, need),))

    def test_is_turning(self):
        self.assertIs(Plan().is_turning, False)
        self.assertIs(Plan(("red", 6)).is_turning, False)
        self.assertIs(Plan(TURN).is_turning, True)
        self.assertIs(Plan(TURN, ("red", 6), TURN).is_turning, False)
        self.assertIs(Plan(TURN, TURN, ("blue", 6), TURN).is_turning, True)

    def test_wrong_steps(self):
        for step in WRONG_STEPS:
            with self.subTest(step=step):
                self.assert_invalid(0, Plan, step)
                self.assert_invalid(2, Plan, ("red", 1), TURN, step, ("blue", 2))
                self.assert_invalid(59, Plan, *[TURN] * 59, step)

    def test_index_is_that_of_the_first_wrong_step(self):
        self.assert_invalid(1, Plan, ("red", 6), ("green", 7), ("blue", -1))
        self.assert_invalid(0, Plan, ("blue", -1), ("green", 7))

    def test_index_of_the_61st_step(self):
        self.assert_invalid(60, Plan, *[("red", 1)] * 61)
        self.assert_invalid(60, Plan, *[TURN] * 100)
        self.assert_invalid(60, Plan, *[TURN] * 60, ("green", 1))
        self.assert_invalid(60, Plan, *[TURN] * 70, ("green", 1))
        self.assert_invalid(58, Plan, *[TURN] * 58, ("green", 1), *[TURN] * 10)

    def test_joined(self):
        first, second, third = Plan(("red", 6), TURN), Plan(), Plan(("blue", 7))
        self.assertEqual(first.joined().steps, (("red", 6), TURN))
        self.assertEqual(first.joined(second, third, first).steps, (("red", 6), TURN, ("blue", 7), ("red", 6), TURN))
        self.assertEqual(third.joined(first).steps, (("blue", 7), ("red", 6), TURN))
        self.assertEqual(second.joined(second).steps, ())
        self.assertIs(first.joined(third).is_turning, True)
        self.assertIs(first.joined(first).is_turning, False)
        self.assertIsInstance(first.joined(second), Plan)

    def test_joined_up_to_60_steps(self):
        half = Plan(*[("red", number) for number in range(30)])
        self.assertEqual(half.joined(half).steps, half.steps * 2)
        one = Plan(("blue", 1))
        self.assertEqual(len(one.joined(*[one] * 59).steps), 60)
        self.assert_invalid(60, half.joined, half, one)
        self.assert_invalid(60, one.joined, half, half, half)
        self.assert_invalid(60, one.joined, *[one] * 60)

    def test_joined_changes_no_plan(self):
        first, second = Plan(("red", 6)), Plan(("blue", 7))
        others = [second, first]
        self.assertEqual(first.joined(*others).steps, first.joined(*others).steps)
        self.assertEqual([first.steps, second.steps], [(("red", 6),), (("blue", 7),)])
        self.assertEqual(others, [second, first])

    def test_alternating(self):
        self.assertEqual(Plan.alternating().steps, ())
        self.assertEqual(Plan.alternating(6).steps, (("red", 6),))
        self.assertEqual(Plan.alternating(6, 7, 0).steps, (("red", 6), ("blue", 7), ("red", 0)))
        self.assertIs(Plan.alternating(6, 7).is_turning, False)
        self.assertIsInstance(Plan.alternating(6, 7), Plan)
        sixty = Plan.alternating(*range(60)).steps
        self.assertEqual(sixty, tuple(("blue" if need % 2 else "red", need) for need in range(60)))

    def test_alternating_with_wrong_needs(self):
        for need in (-1, MOST + 1, True, False, "6", None, 6.0):
            with self.subTest(need=need):
                self.assert_invalid(0, Plan.alternating, need)
                self.assert_invalid(3, Plan.alternating, 1, MOST, 0, need, need)
        self.assert_invalid(60, Plan.alternating, *[1] * 61)
        self.assert_invalid(60, Plan.alternating, *[1] * 61, -1)
        self.assert_invalid(4, Plan.alternating, 1, 1, 1, 1, -1, *[1] * 61)

    def test_arguments_are_not_kept(self):
        steps = [("red", 6), ("blue", 7)]
        plan = Plan(*steps)
        steps.append(TURN)
        steps[0] = ("red", 1)
        self.assertEqual(plan.steps, (("red", 6), ("blue", 7)))

    def test_properties_cannot_be_assigned(self):
        plan = Plan(("red", 6))
        for name in ("steps", "is_turning"):
            with self.assertRaises(AttributeError):
                setattr(plan, name, ())
        self.assertEqual(plan.steps, (("red", 6),))

    def test_plans_do_not_share_steps(self):
        first, second = Plan(("red", 6)), Plan(TURN)
        self.assertEqual([first.steps, second.steps], [(("red", 6),), (TURN,)])


if __name__ == "__main__":
    unittest.main()
