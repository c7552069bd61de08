import inspect
import unittest

from patternback import finding
from patternback.errors import EmptyRound, NothingAhead, PatternError, TooDeep, Unclosed, Unopened
from patternback.finding import all_found, first
from patternback.reading import read
from plain_matcher import all_behind, as_pair, compiled, first_behind
from samples import LARGE, PATTERNS, texts

SHORT_PATTERNS = PATTERNS + (
    "b?!c", "(a|bc)?", "(ab)*", "(ab)*!c|b", "[!b]", "[!b]*", "(a*b|a*c)|a", ".*c|.", "(.b)?!(a|c)",
)
REFUSED = {
    Unclosed: ("(", "[", "~", "(a", "[a", "a~", "(a|b", "[!", "[~]", "()("),
    Unopened: (")", "]", "a)", "a]", "(a))", "[a]]"),
    NothingAhead: ("*", "?", "(*)", "|?", "a**", "a?!?", "a*!*"),
    EmptyRound: ("()*", "(a?)*", "(a*)*", "(|a)*!", "(a*!b?)*"),
    TooDeep: ("(" * 31, "(" * 31 + "a" + ")" * 31, "()" + "(" * 40),
}


class TestInterface(unittest.TestCase):
    def test_the_functions_are_defined_in_their_file_with_their_arguments(self):
        for function in (first, all_found):
            self.assertEqual(list(inspect.signature(function).parameters), ["pattern", "text"])
            self.assertEqual(function.__module__, "patternback.finding")
            self.assertIs(getattr(finding, function.__name__), function)

    def test_the_kinds_of_what_is_told(self):
        for told in (first("a*b", "caab"), *all_found("a?", "aba")):
            self.assertEqual((type(told), *map(type, told)), (tuple, int, int))
        self.assertIs(type(all_found("a", "aa")), list)
        self.assertIs(type(all_found("a", "")), list)

    def test_nothing_is_kept_for_the_next_time(self):
        told = all_found("a*b", "aabab")
        told.clear()
        self.assertEqual(all_found("b*a", "aabab"), [(0, 1), (1, 1), (2, 2)])
        self.assertEqual(all_found("a*b", "aabab"), [(0, 3), (3, 2)])


class TestFirst(unittest.TestCase):
    def check(self, pattern, text, told):
        self.assertEqual(first(pattern, text), told, (pattern, text))

    def test_ordinary_ones(self):
        self.check("b", "abab", (1, 1))
        self.check("a*", "aab", (0, 2))
        self.check("a*!", "aab", (0, 0))
        self.check("a|ab", "ab", (0, 1))
        self.check("ab|a", "ab", (0, 2))
        self.check("[0123]*!-", "a12-3-", (1, 3))
        self.check("~(.*!~)", "f(x)(y)", (1, 3))
        self.check("~(.*~)", "f(x)(y)", (1, 6))
        self.check("\n.", "a\n\tb", (1, 2))

    def test_the_least_place_counts_ahead_of_what_is_preferred(self):
        self.check("c|b|a", "abc", (0, 1))
        self.check("bc|abcd", "abcd", (0, 4))
        self.check("a*", "baa", (0, 0))

    def test_an_empty_text(self):
        self.check("", "", (0, 0))
        self.check("a*", "", (0, 0))
        self.check("a|", "", (0, 0))
        self.check("a", "", None)
        self.check(".", "", None)

    def test_no_match(self):
        self.check("c", "abab", None)
        self.check("[]", "abab", None)
        self.check("aa*b", "bbaa", None)

    def test_small_patterns(self):
        for pattern in SHORT_PATTERNS:
            tree = read(pattern)
            for text in texts("abc", 5):
                self.check(pattern, text, first_behind(tree, text, 0))

    def test_as_pythons_own_expressions_tell(self):
        for pattern in SHORT_PATTERNS:
            expression = compiled(read(pattern))
            for text in texts("abc", 5):
                self.check(pattern, text, as_pair(expression.search(text)))


class TestAllFound(unittest.TestCase):
    def check(self, pattern, text, *told):
        self.assertEqual(all_found(pattern, text), list(told), (pattern, text))

    def test_ordinary_ones(self):
        self.check("a", "abaab", (0, 1), (2, 1), (3, 1))
        self.check("ab", "abaabab", (0, 2), (3, 2), (5, 2))
        self.check("a|ab", "abab", (0, 1), (2, 1))
        self.check("[ab]c", "acbcc", (0, 2), (2, 2))

    def test_none(self):
        self.check("a", "")
        self.check("a", "bb")
        self.check("[]", "abc")

    def test_the_next_one_begins_at_or_behind_the_end(self):
        self.check("aa", "aaaaa", (0, 2), (2, 2))
        self.check("aba", "abababa", (0, 3), (4, 3))
        self.check("a*b", "aabab", (0, 3), (3, 2))

    def test_at_the_end_of_the_text(self):
        self.check("a*", "aa", (0, 2), (2, 0))
        self.check("ab|", "ab", (0, 2), (2, 0))
        self.check("", "", (0, 0))
        self.check("a?", "", (0, 0))
        self.check(".", "ab", (0, 1), (1, 1))

    def test_behind_an_empty_match(self):
        self.check("", "ab", (0, 0), (1, 0), (2, 0))
        self.check("a*", "baac", (0, 0), (1, 2), (3, 0), (4, 0))
        self.check("a?", "aba", (0, 1), (1, 0), (2, 1), (3, 0))
        self.check("a*!", "aa", (0, 0), (1, 0), (2, 0))
        # Behind the empty one at place 0 the a there isn't taken.
        self.check("|a", "ab", (0, 0), (1, 0), (2, 0))

    def test_an_empty_match_straight_behind_another_one(self):
        self.check("a|b?", "ab", (0, 1), (1, 1), (2, 0))
        self.check("a*", "aab", (0, 2), (2, 0), (3, 0))

    def test_a_way_that_led_to_a_match_may_lead_to_the_next_one(self):
        # Both matches go through the end's step, and the second one's begin lies in the first one's end.
        self.check("(a|b)(c|)", "abc", (0, 1), (1, 2))
        self.check("a?b?", "bab", (0, 1), (1, 2), (3, 0))
        self.check("a*!b|a?", "aac", (0, 1), (1, 1), (2, 0), (3, 0))

    def test_small_patterns(self):
        for pattern in SHORT_PATTERNS:
            tree = read(pattern)
            for text in texts("abc", 5):
                self.check(pattern, text, *all_behind(tree, text, 0))

    def test_as_pythons_own_expressions_tell(self):
        for pattern in SHORT_PATTERNS:
            expression = compiled(read(pattern))
            for text in texts("abc", 5):
                self.check(pattern, text, *self.searched(expression, text))

    def searched(self, expression, text):
        found = []
        place = 0
        while place <= len(text) and (told := as_pair(expression.search(text, place))):
            found.append(told)
            place = sum(told) if told[1] else told[0] + 1
        return found


class TestRefusals(unittest.TestCase):
    def test_both_refuse_as_read_does(self):
        for error, patterns in REFUSED.items():
            for pattern in patterns:
                for text in ("", "a", pattern, "ab" * 20):
                    self.check(first, pattern, text, error)
                    self.check(all_found, pattern, text, error)

    def check(self, function, pattern, text, error):
        with self.assertRaises(PatternError) as caught:
            function(pattern, text)
        self.assertIs(type(caught.exception), error, (pattern, text))

    def test_the_first_wrong_sign_decides(self):
        for function in (first, all_found):
            self.check(function, ")*(", "a", Unopened)
            self.check(function, "**)", "a", NothingAhead)
            self.check(function, "()*)", "a", EmptyRound)
            self.check(function, "(" * 31 + "*", "a", TooDeep)
            self.check(function, "a|(b", "a", Unclosed)


class TestLimits(unittest.TestCase):
    def test_the_first_match(self):
        for pattern, text, told in LARGE:
            self.assertEqual(first(pattern, text), told, pattern)

    def test_a_row_of_2000_signs(self):
        self.assertIsNone(first("a" * 2000, "a" * 1000))
        self.assertEqual(first("a" * 1000 + "b?" * 500, "a" * 1000), (0, 1000))
        self.assertEqual(all_found("a*", "a" * 1000), [(0, 1000), (1000, 0)])

    def test_a_match_at_each_place(self):
        self.assertEqual(all_found("a", "a" * 1000), [(place, 1) for place in range(1000)])
        self.assertEqual(all_found("|" * 2000, "a" * 1000), [(place, 0) for place in range(1001)])
        self.assertEqual(all_found("a|" * 999 + "b", "b" * 1000), [(place, 1) for place in range(1000)])

    def test_a_look_through_the_whole_text_ahead_of_each_match(self):
        pattern = "|".join([".*b"] * 480) + "|a"
        self.assertEqual(all_found(pattern, "a" * 1000), [(place, 1) for place in range(1000)])

    def test_the_deepest(self):
        self.assertEqual(first("(a?" * 30 + "b" * 1850 + ")?" * 30, "a" * 40), (0, 29))
        self.assertEqual(first("(" * 30 + "ab" + ")" * 30, "cab"), (1, 2))
        self.assertEqual(first("(a(b" * 15 + "c" + ")*d)*" * 15, "abd"), (0, 3))


if __name__ == "__main__":
    unittest.main()
