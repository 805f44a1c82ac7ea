import unittest

from chaircarry import errors

WITH_ATTRIBUTE = {
    "InvalidPlan": "index",
    "TooFewChairs": "index",
    "InvalidEvidence": "index",
    "InvalidText": "row",
    "InvalidOperation": "index",
    "DaybookError": "row",
    "DecodeError": "offset",
}
WITHOUT_ATTRIBUTE = ["InvalidNumber", "Contradiction", "InvalidBooking", "NotEnough"]


class ErrorsTest(unittest.TestCase):
    def test_chair_error_is_a_value_error(self):
        self.assertEqual(errors.ChairError.__bases__, (ValueError,))

    def test_all_errors_are_defined_here(self):
        for name in ["ChairError", *WITH_ATTRIBUTE, *WITHOUT_ATTRIBUTE]:
            self.assertEqual(getattr(errors, name).__module__, "chaircarry.errors", name)

    def test_no_error_is_a_subclass_of_another_one(self):
        for name in [*WITH_ATTRIBUTE, *WITHOUT_ATTRIBUTE]:
            self.assertEqual(getattr(errors, name).__bases__, (errors.ChairError,), name)

    def test_attributes_are_given_as_keywords(self):
        for name, attribute in WITH_ATTRIBUTE.items():
            made = getattr(errors, name)
            error = made(**{attribute: 7})
            self.assertEqual(getattr(error, attribute), 7, name)
            self.assertEqual(vars(error), {attribute: 7}, name)
            self.assertIn("7", str(error), name)
            with self.assertRaises(TypeError):
                made(7)
            with self.assertRaises(TypeError):
                made()

    def test_errors_without_attributes(self):
        for name in WITHOUT_ATTRIBUTE:
            self.assertEqual(vars(getattr(errors, name)()), {}, name)


if __name__ == "__main__":
    unittest.main()
