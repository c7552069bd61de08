import inspect
import unittest

from patternback import marks
from patternback.marks import takes
from samples import SIGNS


class TestTakes(unittest.TestCase):
    def test_inside_takes_one_of_the_signs(self):
        self.assertIs(takes(True, "abc", "a"), True)
        self.assertIs(takes(True, "abc", "c"), True)
        self.assertIs(takes(True, "abc", "d"), False)

    def test_outside_takes_one_that_is_none_of_the_signs(self):
        self.assertIs(takes(False, "abc", "a"), False)
        self.assertIs(takes(False, "abc", "c"), False)
        self.assertIs(takes(False, "abc", "d"), True)

    def test_one_of_no_signs_is_no_sign(self):
        for sign in SIGNS:
            self.assertIs(takes(True, "", sign), False, sign)

    def test_none_of_no_signs_is_any_sign(self):
        for sign in SIGNS:
            self.assertIs(takes(False, "", sign), True, sign)

    def test_a_sign_that_stands_there_twice(self):
        self.assertIs(takes(True, "aa", "a"), True)
        self.assertIs(takes(False, "aba", "a"), False)
        self.assertIs(takes(True, "aa", "b"), False)

    def test_each_sign_is_itself_alone(self):
        for sign in SIGNS:
            for other in SIGNS:
                self.assertIs(takes(True, sign, other), sign == other)
                self.assertIs(takes(False, sign, other), sign != other)

    def test_special_signs_range_over_nothing(self):
        self.assertIs(takes(True, ".", "a"), False)
        self.assertIs(takes(True, "!a", "b"), False)
        self.assertIs(takes(True, "a-c", "b"), False)
        self.assertIs(takes(True, "a", "A"), False)

    def test_it_is_defined_in_its_file_with_its_arguments(self):
        self.assertEqual(marks.takes.__module__, "patternback.marks")
        self.assertEqual(list(inspect.signature(takes).parameters), ["inside", "signs", "sign"])


if __name__ == "__main__":
    unittest.main()
