import unittest

from trothbase import errors

NAMES = [
    "Refused", "InvalidArgument", "PowerOff", "HouseClosed", "MissingPage",
    "NoTransaction", "TransactionOpen", "StillWaiting",
]


class ErrorsTest(unittest.TestCase):
    def test_base(self):
        self.assertTrue(issubclass(errors.TrothError, ValueError))
        self.assertEqual(str(errors.TrothError("why")), "why")

    def test_each_is_a_troth_error_and_none_of_the_others(self):
        for name in NAMES:
            own = getattr(errors, name)
            self.assertEqual(own.__bases__, (errors.TrothError,), name)
            for other in NAMES:
                self.assertEqual(issubclass(own, getattr(errors, other)), own is getattr(errors, other))

    def test_each_may_be_created_with_a_text(self):
        for name in NAMES[1:]:
            own = getattr(errors, name)
            with self.assertRaises(errors.TrothError) as caught:
                raise own("some text")
            self.assertIsInstance(caught.exception, ValueError)
            self.assertEqual(str(caught.exception), "some text")

    def test_refused_has_its_problem(self):
        problem = ("no table", "t")
        with self.assertRaises(errors.Refused) as caught:
            raise errors.Refused(problem)
        self.assertEqual(caught.exception.problem, problem)
        self.assertEqual(errors.Refused(()).problem, ())
        self.assertFalse(hasattr(errors.InvalidArgument("x"), "problem"))


if __name__ == "__main__":
    unittest.main()
