import unittest

from rentroll import errors

NAMES = ["BadDay", "BadFlat", "BadAmount", "NoLease", "Taken", "Full", "Done"]
SEVEN = [getattr(errors, name) for name in NAMES]


class ErrorsTest(unittest.TestCase):
    def test_rent_error_is_a_value_error(self):
        self.assertEqual(errors.RentError.__bases__, (ValueError,))

    def test_each_is_a_rent_error_and_a_value_error(self):
        for kind in SEVEN:
            with self.subTest(kind=kind.__name__):
                self.assertTrue(issubclass(kind, errors.RentError))
                self.assertTrue(issubclass(kind, ValueError))
                self.assertIsNot(kind, errors.RentError)

    def test_none_is_under_another(self):
        for kind in SEVEN:
            for other in SEVEN:
                if kind is not other:
                    with self.subTest(kind=kind.__name__, other=other.__name__):
                        self.assertFalse(issubclass(kind, other))

    def test_they_are_seven_under_their_own_names(self):
        self.assertEqual([kind.__name__ for kind in SEVEN], NAMES)

    def test_each_can_be_raised_and_is_caught_by_its_own_name_only(self):
        for kind in SEVEN:
            for other in SEVEN:
                with self.subTest(kind=kind.__name__, other=other.__name__):
                    caught = None
                    try:
                        raise kind("told")
                    except other:
                        caught = other
                    except errors.RentError:
                        caught = errors.RentError
                    self.assertIs(caught, kind if kind is other else errors.RentError)


if __name__ == "__main__":
    unittest.main()
