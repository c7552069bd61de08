import copy
import inspect
import unittest

from patternback import trying
from patternback.nets import net_of
from patternback.reading import read
from patternback.trees import size
from patternback.trying import tried, tried_at, tried_count, way_at
from plain_matcher import length_at
from plain_nets import PlainTrial, other_numberings, plain_net_for, ways
from samples import LARGE, PATTERNS, small_trees, texts

END = ("end",)
A_MANY_THEN_B = (0, [("part", 1, 2), ("take", True, "a", 0), ("take", True, "b", 3), END])


class TestInterface(unittest.TestCase):
    def test_the_functions_are_defined_in_their_file_with_their_arguments(self):
        for function in (way_at, tried_at):
            self.assertEqual(list(inspect.signature(function).parameters), ["net", "text", "place"])
        for function in (tried, tried_count):
            self.assertEqual(list(inspect.signature(function).parameters), ["net", "text"])
        for function in (way_at, tried_at, tried, tried_count):
            self.assertEqual(function.__module__, "patternback.trying")
            self.assertIs(getattr(trying, function.__name__), function)

    def test_the_kinds_of_what_is_told(self):
        way = way_at(A_MANY_THEN_B, "ab", 0)
        self.assertIs(type(way), list)
        self.assertEqual({(type(pair), *map(type, pair)) for pair in way}, {(tuple, int, int)})
        self.assertIs(type(tried_at(A_MANY_THEN_B, "ab", 0)), int)
        told = tried(A_MANY_THEN_B, "ab")
        self.assertEqual((type(told), *map(type, told)), (tuple, int, int))
        self.assertIs(type(tried_count(A_MANY_THEN_B, "ab")), int)

    def test_the_net_is_not_changed(self):
        for pattern in PATTERNS:
            net = net_of(read(pattern))
            before = copy.deepcopy(net)
            for text in ("", "aab", "cab"):
                first_told = (way_at(net, text, 0), tried_at(net, text, 0), tried(net, text), tried_count(net, text))
                then_told = (way_at(net, text, 0), tried_at(net, text, 0), tried(net, text), tried_count(net, text))
                self.assertEqual(first_told, then_told)
                self.assertEqual(net, before)

    def test_what_was_told_does_not_hang_on_the_net(self):
        net = (0, list(A_MANY_THEN_B[1]))
        way = way_at(net, "aab", 0)
        expected = list(way)
        net[1][0] = ("part", 2, 1)
        net[1].reverse()
        self.assertEqual(way, expected)
        way.clear()
        self.assertEqual(way_at(A_MANY_THEN_B, "aab", 0), expected)

    def test_a_net_that_was_changed_is_gone_through_as_it_is_now(self):
        net = (0, list(A_MANY_THEN_B[1]))
        self.assertEqual(tried(net, "aab"), (0, 3))
        net[1][1] = ("take", True, "c", 0)
        self.assertEqual(tried(net, "aab"), (2, 1))


class TestWayAt(unittest.TestCase):
    def check(self, pattern, text, place, *pairs):
        self.assertEqual(way_at(plain_net_for(pattern), text, place), list(pairs))

    def check_none(self, pattern, text, place):
        self.assertIsNone(way_at(plain_net_for(pattern), text, place))

    def test_a_take(self):
        self.check("a", "a", 0, (0, 0), (1, 1))
        self.check("a", "ba", 1, (0, 1), (1, 2))
        self.check_none("a", "ba", 0)
        self.check_none("a", "a", 1)

    def test_a_row(self):
        self.check("abc", "abc", 0, (0, 0), (1, 1), (2, 2), (3, 3))
        self.check_none("abc", "ab", 0)

    def test_a_row_without_parts(self):
        self.check("", "", 0, (0, 0))
        self.check("", "ab", 1, (0, 1))
        self.check("", "ab", 2, (0, 2))

    def test_the_preferred_step_first(self):
        # Its steps: the choice, the first a, the end, the second a, the b.
        self.check("a|ab", "ab", 0, (0, 0), (1, 0), (2, 1))
        # Its steps: the choice, the first a, the b, the end, the second a.
        self.check("ab|a", "ab", 0, (0, 0), (1, 0), (2, 1), (3, 2))

    def test_going_back_where_it_can_not_go_on(self):
        self.check("ab|a", "aa", 0, (0, 0), (4, 0), (3, 1))
        # The maybe, its a, the a behind it, the end.
        self.check("a?a", "ab", 0, (0, 0), (2, 0), (3, 1))

    def test_repeats(self):
        self.check("a*", "aab", 0, (0, 0), (1, 0), (0, 1), (1, 1), (0, 2), (2, 2))
        self.check("a*!", "aab", 0, (0, 0), (1, 0))
        self.check("a?", "aab", 0, (0, 0), (1, 0), (2, 1))
        self.check("a?!", "aab", 0, (0, 0), (1, 0))
        self.check("a*!b", "aab", 0, (0, 0), (3, 0), (0, 1), (3, 1), (0, 2), (1, 2), (2, 3))

    def test_at_the_end_of_the_text(self):
        self.check("a*", "aa", 2, (0, 2), (2, 2))
        self.check("a?!", "", 0, (0, 0), (1, 0))
        self.check_none("a", "", 0)
        self.check_none("ab", "a", 1)

    def test_a_pick_whose_parts_lead_to_the_same_end(self):
        self.check("|", "a", 0, (0, 0), (1, 0))
        self.check("a|a", "a", 0, (0, 0), (1, 0), (2, 1))
        self.check("(a|a)b", "ab", 0, (0, 0), (1, 0), (2, 1), (3, 2))
        self.check_none("(a|a)b", "aa", 0)

    def test_small_patterns(self):
        for pattern in PATTERNS:
            net = plain_net_for(pattern)
            for text in texts("abc", 4):
                for place in range(len(text) + 1):
                    found = ways(net, text, place)
                    self.assertEqual(way_at(net, text, place), found[0] if found else None, (pattern, text, place))

    def test_small_trees(self):
        for tree in small_trees(1):
            net = net_of(tree)
            for text in ("", "ab", "!|a~"):
                found = ways(net, text, 0)
                self.assertEqual(way_at(net, text, 0), found[0] if found else None, (tree, text))


class TestTriedAt(unittest.TestCase):
    def check(self, pattern, text, *lengths):
        """The lengths at each place, from nought to the text's length."""
        net = net_of(read(pattern))
        told = [tried_at(net, text, place) for place in range(len(text) + 1)]
        self.assertEqual(told, list(lengths), (pattern, text))

    def test_at_each_place(self):
        self.check("a", "aba", 1, None, 1, None)
        self.check("a*", "aaba", 2, 1, 0, 1, 0)
        self.check("a*!", "aab", 0, 0, 0, 0)
        self.check("a?", "aab", 1, 1, 0, 0)
        self.check("a?!", "aab", 0, 0, 0, 0)
        self.check("a|ab", "aab", 1, 1, None, None)
        self.check("ab|a", "aab", 1, 2, None, None)
        self.check("a*!b", "aab", 3, 2, 1, None)
        self.check("(a|ab)(c|bcd)", "abcd", 4, None, None, None, None)
        self.check("(a?!)(ab)?", "aab", 0, 2, 0, 0)
        self.check("[ab]*!c", "abcab", 3, 2, 1, None, None, None)

    def test_an_empty_text(self):
        self.check("", "", 0)
        self.check("a", "", None)
        self.check("a*", "", 0)
        self.check("|a", "", 0)
        self.check("[]", "", None)
        self.check(".", "", None)

    def test_a_length_of_nought_is_not_none(self):
        self.check("", "ab", 0, 0, 0)
        self.assertIs(type(tried_at(net_of(read("")), "ab", 2)), int)

    def test_line_ends_and_tabs_are_signs(self):
        self.check(".*", "a\n\tb", 4, 3, 2, 1, 0)
        self.check("[!a]", "a\n\t", None, 1, 1, None)
        self.check("\n\t", "a\n\t", None, 2, None, None)

    def test_small_patterns(self):
        for pattern in PATTERNS:
            tree = read(pattern)
            for text in texts("abc", 4):
                self.check(pattern, text, *[length_at(tree, text, place) for place in range(len(text) + 1)])


class TestTried(unittest.TestCase):
    def check(self, pattern, text, told):
        self.assertEqual(tried(net_of(read(pattern)), text), told)

    def test_the_least_place_that_has_a_match(self):
        self.check("a", "bba", (2, 1))
        self.check("ab|c", "aacab", (2, 1))
        self.check("a*b", "caab", (1, 3))
        self.check("b|aab", "aab", (0, 3))

    def test_the_end_of_the_text_is_a_place_too(self):
        self.check("", "", (0, 0))
        self.check("a?!", "", (0, 0))
        self.check("ab", "cab", (1, 2))

    def test_a_match_of_length_nought_comes_first(self):
        self.check("a*", "baa", (0, 0))
        self.check("a*!", "aab", (0, 0))
        self.check("|a", "a", (0, 0))

    def test_no_match(self):
        self.check("a", "", None)
        self.check("a", "bcb", None)
        self.check("[]", "abc", None)
        self.check("ab", "aaa", None)
        self.check("a*b", "aaac", None)


class TestTriedCount(unittest.TestCase):
    def check(self, pattern, text, count):
        self.assertEqual(tried_count(net_of(read(pattern)), text), count, (pattern, text))

    def test_the_first_step_and_the_end_are_among_them(self):
        self.check("", "", 1)
        self.check("", "aaa", 1)
        self.check("a", "a", 2)
        self.check("abc", "abcabc", 4)

    def test_a_step_that_can_not_take_its_sign_is_among_them(self):
        self.check("a", "", 1)
        self.check("a", "b", 2)
        self.check("a", "bba", 4)
        self.check("[]", "abc", 4)

    def test_a_pick(self):
        self.check("a|ab", "ab", 3)
        self.check("ab|a", "ab", 4)
        self.check("ab|a", "aa", 5)
        self.check("a|b", "b", 4)

    def test_repeats(self):
        self.check("a*", "aab", 7)
        self.check("a*!", "aab", 2)
        self.check("a*!b", "aab", 9)
        self.check("a?", "b", 3)

    def test_a_step_gone_back_from_is_not_tried_again_in_this_place(self):
        # The b behind both a is taken up at place 1 once: of the choice, a, b, a, and at place 1 of the choice, a, a.
        self.check("(a|a)b", "a", 7)
        # Of the b at place 1 it goes back once, too, though three ways lead to it.
        self.check("a?a?b", "a", 10)

    def test_a_step_gone_back_from_is_not_tried_again_in_later_places(self):
        self.check("a*b", "aaa", 12)
        self.check("a*b", "a" * 200, 3 * 201)
        self.check("a*a*b", "a" * 50, 5 * 51)

    def test_nothing_is_taken_up_behind_the_match(self):
        self.check("a", "ab", 2)
        self.check("a|b", "ab" * 20, 3)

    def test_small_patterns(self):
        for pattern in PATTERNS:
            net = net_of(read(pattern))
            for text in texts("abc", 4):
                trial = PlainTrial(net, text)
                self.assertEqual(tried(net, text), trial.first_match(), (pattern, text))
                self.assertEqual(tried_count(net, text), len(trial.taken_up), (pattern, text))
                self.assertEqual(len(set(trial.taken_up)), len(trial.taken_up))

    def test_small_trees(self):
        for tree in small_trees(2)[::11]:
            net = net_of(tree)
            for text in ("", "ba", "]|a~aa"):
                trial = PlainTrial(net, text)
                self.assertEqual(tried(net, text), trial.first_match(), (tree, text))
                self.assertEqual(tried_count(net, text), len(trial.taken_up), (tree, text))

    def test_at_most_the_size_times_one_more_than_the_text_has_signs(self):
        for pattern in PATTERNS:
            tree = read(pattern)
            for text in texts("abc", 4):
                self.assertLessEqual(tried_count(net_of(tree), text), size(tree) * (len(text) + 1))


class TestOtherNumbers(unittest.TestCase):
    def test_the_end_first_and_the_first_step_last(self):
        net = (3, [END, ("take", True, "b", 0), ("take", True, "a", 3), ("part", 2, 1)])
        self.assertEqual(way_at(net, "cab", 1), [(3, 1), (2, 1), (3, 2), (1, 2), (0, 3)])
        self.assertIsNone(way_at(net, "cab", 0))
        self.assertEqual([tried_at(net, "cab", place) for place in range(4)], [None, 2, 1, None])
        self.assertEqual(tried(net, "cab"), (1, 2))
        self.assertEqual(tried_count(net, "cab"), 9)

    def test_the_end_alone(self):
        net = (0, [END])
        self.assertEqual(way_at(net, "a", 1), [(0, 1)])
        self.assertEqual(tried(net, ""), (0, 0))
        self.assertEqual(tried_count(net, ""), 1)

    def test_the_preferred_step_goes_by_what_stands_in_the_part(self):
        steps = [("take", True, "a", 2), ("take", True, "b", 2), END, ("take", True, "a", 1)]
        self.assertEqual(tried((4, steps + [("part", 0, 3)]), "ab"), (0, 1))
        self.assertEqual(tried((4, steps + [("part", 3, 0)]), "ab"), (0, 2))

    def test_they_lead_the_same_way(self):
        for pattern in PATTERNS:
            net = net_of(read(pattern))
            for other in other_numberings(net):
                for text in texts("abc", 3):
                    self.assertEqual(tried(other, text), tried(net, text), (pattern, text))
                    self.assertEqual(tried_count(other, text), tried_count(net, text), (pattern, text))
                    self.check_ways(other, net, text)

    def check_ways(self, other, net, text):
        for place in range(len(text) + 1):
            self.assertEqual(tried_at(other, text, place), tried_at(net, text, place))
            self.assertEqual(self.steps_along(other, text, place), self.steps_along(net, text, place))

    def steps_along(self, net, text, place):
        """The way, with what each step is instead of its number."""
        way = way_at(net, text, place)
        return None if way is None else [(net[1][number][:1], at) for number, at in way]


class TestLimits(unittest.TestCase):
    def test_the_first_match(self):
        for pattern, text, told in LARGE:
            self.assertEqual(tried(net_of(read(pattern)), text), told, pattern)

    def test_at_most_the_size_times_one_more_than_the_text_has_signs(self):
        for pattern, text, _ in LARGE:
            tree = read(pattern)
            self.assertLessEqual(tried_count(net_of(tree), text), size(tree) * (len(text) + 1), pattern)

    def test_the_longest_way(self):
        net = net_of(read("(" + "b?" * 998 + "a)*"))
        self.assertEqual(len(way_at(net, "a" * 1000, 0)), 1000 * 1000 + 2)

    def test_each_step_at_each_place(self):
        tree = read("a*" * 999 + "b")
        # Each step but the end, at each place, just once.
        self.assertEqual(tried_count(net_of(tree), "a" * 1000), (size(tree) - 1) * 1001)
        self.assertIsNone(tried(net_of(tree), "a" * 1000))

    def test_other_numbers(self):
        net = net_of(read("(" + "b?" * 998 + "a)*c"))
        for other in other_numberings(net):
            self.assertEqual(tried(other, "a" * 100 + "c"), (0, 101))


if __name__ == "__main__":
    unittest.main()
