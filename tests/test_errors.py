import unittest

from makeyard import errors

UNDER_YARD_ERROR = ["NoSort", "HasRecipe", "IsSource", "NoSource", "NoRecipe", "NotThere", "Fails"]


class ErrorClasses(unittest.TestCase):
    def test_yard_error_stands_under_value_error(self):
        self.assertEqual(errors.YardError.__bases__, (ValueError,))
        self.assertEqual(errors.YardError.__name__, "YardError")

    def test_each_refusal_stands_straight_under_yard_error(self):
        for name in UNDER_YARD_ERROR:
            with self.subTest(name=name):
                refusal = getattr(errors, name)
                self.assertEqual(refusal.__bases__, (errors.YardError,))
                self.assertEqual(refusal.__name__, name)

    def test_each_refusal_is_taken_by_its_own_name_and_those_above(self):
        for name in UNDER_YARD_ERROR:
            refusal = getattr(errors, name)
            for above in (refusal, errors.YardError, ValueError):
                with self.subTest(name=name, above=above.__name__):
                    with self.assertRaises(above):
                        raise refusal("words")

    def test_no_refusal_is_taken_by_the_name_of_another(self):
        for name in UNDER_YARD_ERROR:
            for other in UNDER_YARD_ERROR:
                if name != other:
                    with self.subTest(name=name, other=other):
                        self.assertFalse(issubclass(getattr(errors, name), getattr(errors, other)))


if __name__ == "__main__":
    unittest.main()
