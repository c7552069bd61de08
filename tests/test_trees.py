import copy
import inspect
import unittest

from patternback import trees
from patternback.reading import read
from patternback.trees import bare, shown, size
from samples import A, ANY, B, C, D, EMPTY, NONE, SIGNS, SPECIAL
from samples import but, many, maybe, nested, pick, plain_size, plainly_bare, row, small_trees, take


class TestInterface(unittest.TestCase):
    def test_the_functions_are_defined_in_their_file_with_their_argument(self):
        for function in (bare, size, shown):
            self.assertEqual(function.__module__, "patternback.trees")
            self.assertEqual(list(inspect.signature(function).parameters), ["tree"])
            self.assertIs(getattr(trees, function.__name__), function)

    def test_the_kinds_of_what_is_told(self):
        for tree in small_trees(1):
            self.assertIs(bare(tree) in (True, False) and isinstance(bare(tree), bool), True)
            self.assertIs(isinstance(size(tree), int), True)
            self.assertIs(isinstance(shown(tree), str), True)

    def test_no_tree_is_changed(self):
        tree = row(pick(A, EMPTY), many(but("ab"), False), maybe(row(A, B)), NONE)
        before = copy.deepcopy(tree)
        for function in (bare, size, shown):
            first = function(tree)
            self.assertEqual(tree, before)
            self.assertEqual(function(tree), first)


class TestBare(unittest.TestCase):
    def test_a_take_never_is(self):
        for tree in (A, ANY, NONE, but("ab"), take("ab")):
            self.assertIs(bare(tree), False)

    def test_a_row_is_where_all_its_parts_are(self):
        self.assertIs(bare(EMPTY), True)
        self.assertIs(bare(row(maybe(A), many(B))), True)
        self.assertIs(bare(row(EMPTY, EMPTY, EMPTY)), True)
        self.assertIs(bare(row(A, maybe(A))), False)
        self.assertIs(bare(row(maybe(A), A)), False)
        self.assertIs(bare(row(maybe(A), A, maybe(A))), False)

    def test_a_pick_is_where_one_of_its_parts_is(self):
        self.assertIs(bare(pick(A, B)), False)
        self.assertIs(bare(pick(EMPTY, A)), True)
        self.assertIs(bare(pick(A, B, maybe(C))), True)
        self.assertIs(bare(pick(A, EMPTY, C)), True)

    def test_a_maybe_and_a_many_always_are(self):
        for eager in (True, False):
            for part in (A, row(A, B), pick(A, B), many(A)):
                self.assertIs(bare(maybe(part, eager)), True)
        for eager in (True, False):
            for part in (A, row(A, B), pick(A, B)):
                self.assertIs(bare(many(part, eager)), True)

    def test_rows_and_picks_within_each_other(self):
        self.assertIs(bare(row(pick(A, EMPTY), pick(B, C))), False)
        self.assertIs(bare(row(pick(A, EMPTY), pick(B, maybe(C)))), True)
        self.assertIs(bare(pick(row(A, maybe(B)), row(maybe(A), B))), False)
        self.assertIs(bare(pick(row(A, maybe(B)), row(maybe(A), many(B)))), True)

    def test_small_trees(self):
        for tree in small_trees(2):
            self.assertIs(bare(tree), plainly_bare(tree), tree)

    def test_the_deepest_and_the_broadest(self):
        deep = A
        for _ in range(50):
            deep = row(pick(deep, A), EMPTY)
        self.assertIs(bare(deep), False)
        deep = EMPTY
        for _ in range(50):
            deep = row(pick(A, deep), EMPTY)
        self.assertIs(bare(deep), True)
        self.assertIs(bare(row(*[EMPTY] * 5000, A)), False)
        self.assertIs(bare(pick(*[A] * 5000, EMPTY)), True)

    def test_a_tree_somewhat_deeper_than_that(self):
        deep = A
        for _ in range(150):
            deep = row(deep, EMPTY)
        self.assertIs(bare(deep), False)


class TestSize(unittest.TestCase):
    def test_a_take(self):
        for tree in (A, ANY, NONE, take("abc"), but("abc")):
            self.assertEqual(size(tree), 2)

    def test_a_row(self):
        self.assertEqual(size(EMPTY), 1)
        self.assertEqual(size(row(EMPTY, EMPTY)), 1)
        self.assertEqual(size(row(A, B)), 3)
        self.assertEqual(size(row(A, B, C)), 4)

    def test_a_pick(self):
        self.assertEqual(size(pick(A, B)), 4)
        self.assertEqual(size(pick(A, B, C)), 6)
        self.assertEqual(size(pick(EMPTY, A)), 3)
        self.assertEqual(size(pick(EMPTY, EMPTY)), 2)

    def test_a_maybe_and_a_many(self):
        for eager in (True, False):
            self.assertEqual(size(maybe(A, eager)), 3)
            self.assertEqual(size(many(A, eager)), 3)
            self.assertEqual(size(maybe(EMPTY, eager)), 2)
            self.assertEqual(size(many(row(A, B), eager)), 4)
            self.assertEqual(size(maybe(maybe(many(A), eager))), 5)

    def test_trees_within_each_other(self):
        self.assertEqual(size(row(many(pick(A, B)), maybe(row(C, D)), A)), 9)

    def test_small_trees(self):
        for tree in small_trees(2):
            self.assertEqual(size(tree), plain_size(tree), tree)

    def test_the_deepest_and_the_broadest(self):
        self.assertEqual(size(nested(A, 99)), 101)
        self.assertEqual(size(row(*[A] * 5000)), 5001)
        self.assertEqual(size(pick(*[A] * 5000)), 10000)

    def test_a_tree_somewhat_deeper_than_that(self):
        self.assertEqual(size(nested(A, 300)), 302)


class TestShown(unittest.TestCase):
    def check(self, tree, pattern):
        self.assertEqual(shown(tree), pattern)
        self.assertEqual(read(pattern), tree)

    def check_large(self, tree, pattern):
        # assertEqual would take long to show how large texts or trees differ.
        self.assertTrue(shown(tree) == pattern)

    def check_large_both_ways(self, tree, pattern):
        self.check_large(tree, pattern)
        self.assertTrue(read(pattern) == tree)

    def test_a_take_of_one_sign(self):
        for sign in SIGNS:
            self.check(take(sign), "~" + sign if sign in SPECIAL else sign)

    def test_a_take_of_any_sign(self):
        self.check(ANY, ".")

    def test_other_takes_as_sets(self):
        self.check(take("ab"), "[ab]")
        self.check(take("aa"), "[aa]")
        self.check(take("ba"), "[ba]")
        self.check(NONE, "[]")
        self.check(but("a"), "[!a]")
        self.check(but("ab"), "[!ab]")
        self.check(but("aa"), "[!aa]")

    def test_special_signs_in_sets(self):
        for sign in SPECIAL:
            self.check(but(sign), "[!~" + sign + "]")
            self.check(take(sign + "a"), "[~" + sign + "a]")
            self.check(take("a" + sign), "[a~" + sign + "]")
            self.check(take(sign + sign), "[~" + sign + "~" + sign + "]")
        self.check(take(SPECIAL), "[~(~)~|~*~?~.~[~]~~~!]")
        self.check(but(SPECIAL), "[!~(~)~|~*~?~.~[~]~~~!]")

    def test_all_signs_in_a_set(self):
        inner = "".join("~" + sign if sign in SPECIAL else sign for sign in SIGNS)
        self.check(take(SIGNS), "[" + inner + "]")
        self.check(but(SIGNS), "[!" + inner + "]")

    def test_rows(self):
        self.check(EMPTY, "")
        self.check(row(A, B), "ab")
        self.check(row(A, ANY, take("!"), B), "a.~!b")
        self.check(row(row(A, B), C), "(ab)c")
        self.check(row(C, row(A, B)), "c(ab)")
        self.check(row(pick(A, B), C), "(a|b)c")
        self.check(row(EMPTY, A), "()a")
        self.check(row(EMPTY, EMPTY), "()()")
        self.check(row(maybe(A), many(B)), "a?b*")

    def test_picks(self):
        self.check(pick(A, B), "a|b")
        self.check(pick(A, B, C), "a|b|c")
        self.check(pick(row(A, B), C), "ab|c")
        self.check(pick(C, row(A, B)), "c|ab")
        self.check(pick(pick(A, B), C), "(a|b)|c")
        self.check(pick(C, pick(A, B)), "c|(a|b)")
        self.check(pick(EMPTY, A), "|a")
        self.check(pick(A, EMPTY), "a|")
        self.check(pick(EMPTY, EMPTY), "|")
        self.check(pick(maybe(A), many(B)), "a?|b*")

    def test_maybes_and_manies(self):
        self.check(maybe(A), "a?")
        self.check(maybe(A, False), "a?!")
        self.check(many(A), "a*")
        self.check(many(A, False), "a*!")
        self.check(many(but("a")), "[!a]*")
        self.check(many(NONE, False), "[]*!")
        self.check(many(ANY), ".*")
        self.check(many(take("*")), "~**")
        self.check(many(row(A, B)), "(ab)*")
        self.check(many(pick(A, B), False), "(a|b)*!")
        self.check(maybe(EMPTY), "()?")
        self.check(maybe(pick(EMPTY, A), False), "(|a)?!")
        self.check(maybe(maybe(A)), "(a?)?")
        self.check(maybe(maybe(A, False), False), "(a?!)?!")
        self.check(maybe(many(A)), "(a*)?")
        self.check(maybe(many(A, False)), "(a*!)?")

    def test_an_eager_repeat_ahead_of_an_exclamation_mark(self):
        self.check(row(many(A), take("!")), "a*~!")
        self.check(row(many(A, False), take("!")), "a*!~!")
        self.check(row(maybe(A), but("!")), "a?[!~!]")

    def test_trees_within_each_other(self):
        self.check(row(many(pick(row(A, B), C), False), maybe(row(C, pick(D, EMPTY)))), "(ab|c)*!(c(d|))?")
        self.check(pick(row(pick(A, B), pick(C, D)), many(row(A, row(B, C)))), "(a|b)(c|d)|(a(bc))*")

    def test_what_is_written_is_read_to_the_same_tree(self):
        for tree in small_trees(2):
            self.assertEqual(read(shown(tree)), tree)

    def test_within_as_many_brackets_as_may_be(self):
        self.check_large_both_ways(nested(A, 31), "(" * 30 + "a?" + ")?" * 30)
        deep = maybe(row(A, B), False)
        for _ in range(29):
            deep = maybe(pick(row(deep, A), B), False)
        self.check_large_both_ways(row(deep, A), "(" * 30 + "ab" + ")?!a|b" * 29 + ")?!a")

    def test_the_deepest(self):
        self.check_large(nested(A, 99), "(" * 98 + "a?" + ")?" * 98)

    def test_a_tree_somewhat_deeper_than_that(self):
        self.check_large(nested(A, 300), "(" * 299 + "a?" + ")?" * 299)

    def test_the_broadest(self):
        self.check_large_both_ways(row(*[A] * 2000), "a" * 2000)
        self.check_large_both_ways(pick(*[A] * 1000), "a|" * 999 + "a")
        self.check_large_both_ways(pick(*[EMPTY] * 2001), "|" * 2000)
        self.check_large_both_ways(row(*[many(A)] * 1000), "a*" * 1000)
        self.check_large_both_ways(row(*[EMPTY] * 1000), "()" * 1000)
        self.check_large_both_ways(take("ab" * 999), "[" + "ab" * 999 + "]")


if __name__ == "__main__":
    unittest.main()
