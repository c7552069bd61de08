import unittest

from patternback import errors


class TestErrors(unittest.TestCase):
    kinds = (errors.Unclosed, errors.Unopened, errors.NothingAhead, errors.EmptyRound, errors.TooDeep)

    def test_any_refusal_is_a_value_error(self):
        self.assertEqual(errors.PatternError.__bases__, (ValueError,))

    def test_each_kind_of_refusal_stands_straight_below_any_refusal(self):
        for kind in self.kinds:
            self.assertEqual(kind.__bases__, (errors.PatternError,), kind)

    def test_the_classes_are_defined_under_their_names_in_their_file(self):
        for kind in (errors.PatternError, *self.kinds):
            self.assertEqual(kind.__module__, "patternback.errors")
            self.assertIs(getattr(errors, kind.__name__), kind)


if __name__ == "__main__":
    unittest.main()
