import copy
import inspect
import unittest

from patternback import sweeping
from patternback.nets import net_of
from patternback.reading import read
from patternback.sweeping import counted, rows, swept
from patternback.trees import size
from plain_matcher import first_behind
from plain_nets import PlainSweep, in_order, other_numberings, plain_net_for
from samples import LARGE, PATTERNS, small_trees, texts

END = ("end",)
A_MANY_THEN_B = (0, [("part", 1, 2), ("take", True, "a", 0), ("take", True, "b", 3), END])


class TestInterface(unittest.TestCase):
    def test_the_functions_are_defined_in_their_file_with_their_arguments(self):
        for function in (rows, counted, swept):
            self.assertEqual(list(inspect.signature(function).parameters), ["net", "text"])
            self.assertEqual(function.__module__, "patternback.sweeping")
            self.assertIs(getattr(sweeping, function.__name__), function)

    def test_the_kinds_of_what_is_told(self):
        told = rows(A_MANY_THEN_B, "ab")
        self.assertIs(type(told), list)
        self.assertEqual({type(row) for row in told}, {list})
        self.assertEqual({(type(pair), *map(type, pair)) for row in told for pair in row}, {(tuple, int, int)})
        self.assertIs(type(counted(A_MANY_THEN_B, "ab")), int)
        told = swept(A_MANY_THEN_B, "ab")
        self.assertEqual((type(told), *map(type, told)), (tuple, int, int))

    def test_the_net_is_not_changed(self):
        for pattern in PATTERNS:
            net = net_of(read(pattern))
            before = copy.deepcopy(net)
            for text in ("", "aab", "cab"):
                first_told = (rows(net, text), counted(net, text), swept(net, text))
                self.assertEqual((rows(net, text), counted(net, text), swept(net, text)), first_told)
                self.assertEqual(net, before)

    def test_what_was_told_does_not_hang_on_the_net(self):
        net = (0, list(A_MANY_THEN_B[1]))
        told = rows(net, "aab")
        expected = [list(row) for row in told]
        net[1][0] = ("part", 2, 1)
        net[1].reverse()
        self.assertEqual(told, expected)
        for row in told:
            row.append("more")
        self.assertEqual(rows(A_MANY_THEN_B, "aab"), expected)

    def test_no_row_is_another_one(self):
        told = rows(A_MANY_THEN_B, "bbbb")
        told[3].append("more")
        self.assertEqual(told[2:], [[], ["more"], []])

    def test_a_net_that_was_changed_is_gone_through_as_it_is_now(self):
        net = (0, list(A_MANY_THEN_B[1]))
        self.assertEqual(swept(net, "aab"), (0, 3))
        net[1][1] = ("take", True, "c", 0)
        self.assertEqual(swept(net, "aab"), (2, 1))


class TestRows(unittest.TestCase):
    def check(self, pattern, text, *told):
        self.assertEqual(rows(plain_net_for(pattern), text), [list(row) for row in told])

    def test_a_row_for_each_place(self):
        for pattern in PATTERNS:
            for text in texts("ab", 4):
                self.assertEqual(len(rows(plain_net_for(pattern), text)), len(text) + 1)

    def test_an_empty_text(self):
        self.check("", "", [(0, 0)])
        self.check("a", "", [(0, 0)])
        self.check("a*", "", [(0, 0), (1, 0), (2, 0)])
        self.check("a|b", "", [(0, 0), (1, 0), (3, 0)])

    def test_the_first_step_begins_at_each_place(self):
        self.check("a", "bb", [(0, 0)], [(0, 1)], [(0, 2)])
        self.check("[]", "ab", [(0, 0)], [(0, 1)], [(0, 2)])

    def test_what_goes_on_stands_ahead_of_what_begins(self):
        self.check("abc", "ab", [(0, 0)], [(1, 0), (0, 1)], [(2, 0), (0, 2)])
        self.check("aac", "aa", [(0, 0)], [(1, 0), (0, 1)], [(2, 0), (1, 1), (0, 2)])

    def test_a_preferred_step_is_led_in_with_all_that_it_leads_to_first(self):
        # Its steps: the outer choice, the inner one, a, the end, b, the maybe, c, d.
        self.assertEqual(
            plain_net_for("(a|b)|c?d"),
            (0, [("part", 1, 5), ("part", 2, 4), ("take", True, "a", 3), END, ("take", True, "b", 3),
                 ("part", 6, 7), ("take", True, "c", 7), ("take", True, "d", 3)]),
        )
        self.check("(a|b)|c?d", "", [(0, 0), (1, 0), (2, 0), (4, 0), (5, 0), (6, 0), (7, 0)])

    def test_a_step_that_the_row_has_is_not_put_in_again(self):
        # The first step of the many is come to with the earlier begin already.
        self.check("a*b", "aa", [(0, 0), (1, 0), (2, 0)], [(0, 0), (1, 0), (2, 0)], [(0, 0), (1, 0), (2, 0)])
        # Its steps: the choice, a, the b behind both, the end, the other a.
        self.check("(a|a)b", "a", [(0, 0), (1, 0), (4, 0)], [(2, 0), (0, 1), (1, 1), (4, 1)])

    def test_at_an_end_nothing_more_is_led_in(self):
        # Its steps: the choice, the first a, the end, the second a, the b.
        self.check("a|ab", "ab", [(0, 0), (1, 0), (3, 0)], [(2, 0)], [])
        # Not eager: the end is put in ahead of the step that would take more.
        self.check("a*!", "aa", [(0, 0), (1, 0)], [], [])
        self.check("|a", "a", [(0, 0), (1, 0)], [])

    def test_behind_a_match_that_was_noted_nothing_begins(self):
        self.check("a", "aaa", [(0, 0)], [(1, 0)], [], [])
        self.check("", "ab", [(0, 0)], [], [])
        # Its steps: the choice, a, b, the end, the other a.
        self.check("ab|a", "aab", [(0, 0), (1, 0), (4, 0)], [(2, 0), (3, 0)], [], [])

    def test_behind_a_match_that_was_noted_preferred_ways_go_on(self):
        self.check("ab|a", "ab", [(0, 0), (1, 0), (4, 0)], [(2, 0), (3, 0)], [(3, 0)])
        self.check("a*", "aab", [(0, 0), (1, 0), (2, 0)], [(0, 0), (1, 0), (2, 0)], [(0, 0), (1, 0), (2, 0)], [])
        self.check("abc|b", "abd", [(0, 0), (1, 0), (5, 0)], [(2, 0), (0, 1), (1, 1), (5, 1)], [(3, 0), (4, 1)], [])

    def test_a_repeat_that_is_not_eager(self):
        # Its steps: the many, b, the end, a.
        self.check("a*!b", "ab", [(0, 0), (1, 0), (3, 0)], [(0, 0), (1, 0), (3, 0)], [(2, 0)])

    def test_a_pick_whose_parts_lead_to_the_same_end(self):
        self.check("|", "a", [(0, 0), (1, 0)], [])
        # Its steps: the choice, the first a, the end, the second a.
        self.check("a|a", "a", [(0, 0), (1, 0), (3, 0)], [(2, 0)])

    def test_line_ends_and_tabs_are_signs(self):
        self.check(".\n", "\t\n", [(0, 0)], [(1, 0), (0, 1)], [(2, 0)])

    def test_small_patterns(self):
        for pattern in PATTERNS:
            net = net_of(read(pattern))
            for text in texts("abc", 4):
                self.check_plainly(net, text, pattern)

    def test_small_trees(self):
        for tree in small_trees(2)[::11]:
            for text in ("", "ba", "]|a~aa"):
                self.check_plainly(net_of(tree), text, tree)

    def check_plainly(self, net, text, shown):
        plain = PlainSweep(net, text)
        self.assertEqual(rows(net, text), plain.all_rows(), (shown, text))
        self.assertEqual(swept(net, text), plain.noted, (shown, text))

    def test_no_row_has_a_step_twice(self):
        for pattern in PATTERNS:
            for text in texts("abc", 4):
                for row in rows(net_of(read(pattern)), text):
                    numbers = [number for number, _ in row]
                    self.assertEqual(len(set(numbers)), len(numbers), (pattern, text))


class TestCounted(unittest.TestCase):
    def check(self, pattern, text, count):
        self.assertEqual(counted(net_of(read(pattern)), text), count, (pattern, text))

    def test_all_rows_together(self):
        self.check("", "", 1)
        self.check("", "aaa", 1)
        self.check("a", "", 1)
        self.check("a", "aaa", 2)
        self.check("a", "bbb", 4)
        self.check("a*b", "aaa", 12)
        self.check("a|ab", "ab", 4)
        self.check("ab|a", "ab", 6)
        self.check("a*", "aab", 9)
        self.check("a*!", "aab", 2)

    def test_as_many_as_the_rows_have(self):
        for pattern in PATTERNS:
            net = net_of(read(pattern))
            for text in texts("abc", 4):
                self.assertEqual(counted(net, text), sum(map(len, rows(net, text))), (pattern, text))

    def test_at_most_the_size_times_one_more_than_the_text_has_signs(self):
        for pattern in PATTERNS:
            tree = read(pattern)
            for text in texts("abc", 4):
                self.assertLessEqual(counted(net_of(tree), text), size(tree) * (len(text) + 1))


class TestSwept(unittest.TestCase):
    def check(self, pattern, text, told):
        self.assertEqual(swept(net_of(read(pattern)), text), told, (pattern, text))

    def test_the_least_place_that_has_a_match(self):
        self.check("a", "bba", (2, 1))
        self.check("ab|c", "aacab", (2, 1))
        self.check("a*b", "caab", (1, 3))
        self.check("b|aab", "aab", (0, 3))
        self.check("abc|b", "abd", (1, 1))
        self.check("abc|b", "abc", (0, 3))

    def test_the_preferred_end_at_that_place(self):
        self.check("a|ab", "ab", (0, 1))
        self.check("ab|a", "ab", (0, 2))
        self.check("a*", "aab", (0, 2))
        self.check("a*!", "aab", (0, 0))
        self.check("a?", "ab", (0, 1))
        self.check("a?!", "ab", (0, 0))
        self.check("(a|ab)(c|bcd)", "abcd", (0, 4))

    def test_a_match_noted_later_stands_in_the_stead_of_the_one_before(self):
        self.check("abcd|b|a", "abcd", (0, 4))
        self.check("abcd|ab|a", "abcx", (0, 2))
        self.check("(abc)?a*", "abab", (0, 1))

    def test_the_end_of_the_text_is_a_place_too(self):
        self.check("", "", (0, 0))
        self.check("a?!", "", (0, 0))
        self.check("ab", "cab", (1, 2))

    def test_no_match(self):
        self.check("a", "", None)
        self.check("a", "bcb", None)
        self.check("[]", "abc", None)
        self.check("ab", "aaa", None)
        self.check("a*b", "aaac", None)

    def test_small_patterns(self):
        for pattern in PATTERNS:
            tree = read(pattern)
            for text in texts("abc", 4):
                self.check(pattern, text, first_behind(tree, text, 0))


class TestOtherNumbers(unittest.TestCase):
    def test_the_end_first_and_the_first_step_last(self):
        net = (3, [END, ("take", True, "b", 0), ("take", True, "a", 3), ("part", 2, 1)])
        self.assertEqual(
            rows(net, "cab"),
            [[(3, 0), (2, 0), (1, 0)], [(3, 1), (2, 1), (1, 1)], [(3, 1), (2, 1), (1, 1)], [(0, 1)]],
        )
        self.assertEqual(counted(net, "cab"), 10)
        self.assertEqual(swept(net, "cab"), (1, 2))

    def test_the_end_alone(self):
        self.assertEqual(rows((0, [END]), "a"), [[(0, 0)], []])
        self.assertEqual(counted((0, [END]), "a"), 1)
        self.assertEqual(swept((0, [END]), ""), (0, 0))

    def test_the_preferred_step_goes_by_what_stands_in_the_part(self):
        steps = [("take", True, "a", 2), ("take", True, "b", 2), END, ("take", True, "a", 1)]
        self.assertEqual(rows((4, steps + [("part", 0, 3)]), "ab"), [[(4, 0), (0, 0), (3, 0)], [(2, 0)], []])
        self.assertEqual(
            rows((4, steps + [("part", 3, 0)]), "ab"), [[(4, 0), (3, 0), (0, 0)], [(1, 0), (2, 0)], [(2, 0)]],
        )

    def test_they_make_the_same_rows(self):
        for pattern in PATTERNS:
            net = plain_net_for(pattern)
            for other in other_numberings(net):
                for text in texts("abc", 3):
                    self.assertEqual(swept(other, text), swept(net, text), (pattern, text))
                    self.assertEqual(counted(other, text), counted(net, text), (pattern, text))
                    self.assertEqual(self.rows_plainly_numbered(other, text), rows(net, text), (pattern, text))

    def rows_plainly_numbered(self, net, text):
        new = {number: at for at, number in enumerate(in_order(net))}
        return [[(new[number], begin) for number, begin in row] for row in rows(net, text)]


class TestLimits(unittest.TestCase):
    def test_the_first_match(self):
        for pattern, text, told in LARGE:
            self.assertEqual(swept(net_of(read(pattern)), text), told, pattern)

    def test_at_most_the_size_times_one_more_than_the_text_has_signs(self):
        for pattern, text, _ in LARGE:
            tree = read(pattern)
            self.assertLessEqual(counted(net_of(tree), text), size(tree) * (len(text) + 1), pattern)

    def test_each_step_at_each_place(self):
        tree = read("a*" * 999 + "b")
        net = net_of(tree)
        # Each step but the end, in each row, just once.
        self.assertEqual(counted(net, "a" * 1000), (size(tree) - 1) * 1001)
        told = rows(net, "a" * 1000)
        self.assertEqual([len(row) for row in told], [size(tree) - 1] * 1001)
        self.assertEqual({begin for row in told for _, begin in row}, {0})
        self.assertIsNone(swept(net, "a" * 1000))

    def test_other_numbers(self):
        net = net_of(read("(" + "b?" * 998 + "a)*c"))
        for other in other_numberings(net):
            self.assertEqual(swept(other, "a" * 100 + "c"), (0, 101))


if __name__ == "__main__":
    unittest.main()
