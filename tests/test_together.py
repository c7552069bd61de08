"""Point 13, and point 1 over the whole program."""

import copy
import unittest

from patternback.errors import PatternError
from patternback.finding import all_found, first
from patternback.nets import net_of
from patternback.reading import read
from patternback.sweeping import counted, rows, swept
from patternback.trees import bare, shown, size
from patternback.trying import tried, tried_at, tried_count, way_at
from plain_matcher import all_behind, as_pair, compiled, first_behind, length_at
from plain_nets import other_numberings
from samples import SIGNS, small_trees, texts


def trees_of(alphabet, longest):
    """The trees of all patterns of these signs, each with its pattern."""
    for pattern in texts(alphabet, longest):
        try:
            yield pattern, read(pattern)
        except PatternError:
            pass


def mixed_signs(alphabet, length, seed):
    """A text that looks mixed, the same one each time."""
    signs = []
    for _ in range(length):
        seed = (seed * 1103515245 + 12345) % 2 ** 31
        signs.append(alphabet[(seed >> 16) % len(alphabet)])
    return "".join(signs)


class TestTheSame(unittest.TestCase):
    def check(self, tree, text, shown_as):
        net = net_of(tree)
        told = first_behind(tree, text, 0)
        most = size(tree) * (len(text) + 1)
        self.assertEqual(tried(net, text), told, (shown_as, text))
        self.assertEqual(swept(net, text), told, (shown_as, text))
        self.assertLessEqual(tried_count(net, text), most, (shown_as, text))
        self.assertLessEqual(counted(net, text), most, (shown_as, text))
        return told

    def test_all_small_patterns(self):
        for pattern, tree in trees_of("ab(|)*?!", 4):
            for text in texts("ab!", 3):
                told = self.check(tree, text, pattern)
                self.assertEqual(first(pattern, text), told)
                self.assertEqual(all_found(pattern, text), all_behind(tree, text, 0))

    def test_longer_patterns(self):
        for pattern, tree in trees_of("a(|)*?!", 6):
            if len(pattern) == 6:
                for text in ("", "a", "aaa", "a!a"):
                    self.check(tree, text, pattern)

    def test_small_trees(self):
        for tree in small_trees(2)[::5]:
            for text in ("", "a", "]a!", "~!aa|"):
                self.check(tree, text, tree)

    def test_mixed_patterns_and_texts(self):
        checked = 0
        for seed in range(6000):
            pattern = mixed_signs("aabbc(()|*?.!", 5 + seed % 12, seed)
            try:
                tree = read(pattern)
            except PatternError:
                continue
            checked += 1
            text = mixed_signs("abc", seed % 10, seed + 1)
            told = self.check(tree, text, pattern)
            self.assertEqual(as_pair(compiled(tree).search(text)), told, (pattern, text))
            self.check_places(tree, text)
        self.assertGreater(checked, 500)

    def check_places(self, tree, text):
        expression = compiled(tree)
        net = net_of(tree)
        for place in range(len(text) + 1):
            length = tried_at(net, text, place)
            self.assertEqual(length, length_at(tree, text, place))
            found = as_pair(expression.match(text, place))
            self.assertEqual(length, None if found is None else found[1])

    def test_nets_that_are_numbered_in_another_way(self):
        for pattern, tree in trees_of("ab(|)*?!", 4):
            if len(pattern) == 4:
                for net in other_numberings(net_of(tree)):
                    for text in ("", "ab", "ba!"):
                        told = first_behind(tree, text, 0)
                        self.assertEqual(tried(net, text), told, (pattern, text))
                        self.assertEqual(swept(net, text), told, (pattern, text))

    def test_each_sign(self):
        for sign in SIGNS:
            self.assertEqual(first("~" + sign, "aa" + sign), (0 if sign == "a" else 2, 1), sign)
            self.assertEqual(first("[!~" + sign + "]", sign + sign + "a"), None if sign == "a" else (2, 1), sign)
            self.assertEqual(first(".", sign), (0, 1), sign)
        self.assertEqual(first(".*", SIGNS), (0, len(SIGNS)))


class TestNothingHandedInIsChanged(unittest.TestCase):
    def test_trees_and_nets(self):
        for pattern in ("(a|b)*!c?d", "a*(b|)[!c]", "", "()?(ab?)*"):
            tree = read(pattern)
            before = copy.deepcopy(tree)
            net = net_of(tree)
            kept = copy.deepcopy(net)
            for text in ("", "abcd", "bbcd"):
                told = self.all_told(tree, net, text)
                self.assertEqual(tree, before)
                self.assertEqual(net, kept)
                self.assertEqual(self.all_told(tree, net, text), told)

    def all_told(self, tree, net, text):
        from_tree = [function(tree) for function in (bare, size, shown, net_of)]
        from_net = [function(net, text) for function in (rows, counted, swept, tried, tried_count)]
        at_places = [function(net, text, len(text)) for function in (way_at, tried_at)]
        return from_tree + from_net + at_places


class TestLimits(unittest.TestCase):
    def check(self, pattern, text):
        tree = read(pattern)
        net = net_of(tree)
        told = tried(net, text)
        most = size(tree) * (len(text) + 1)
        self.assertEqual(swept(net, text), told)
        self.assertLessEqual(tried_count(net, text), most)
        self.assertLessEqual(counted(net, text), most)
        self.assertEqual(first(pattern, text), told)
        return told

    def test_large_patterns_and_texts(self):
        self.assertEqual(self.check("a" * 999 + "b", "a" * 999 + "b"), (0, 1000))
        self.assertEqual(self.check("a?" * 1000, "a" * 1000), (0, 1000))
        self.assertEqual(self.check("a?!" * 665 + "b", "a" * 700 + "b"), (35, 666))
        self.assertEqual(self.check("(a|b)*!" * 285 + "c", "ab" * 499 + "c"), (0, 999))
        self.assertEqual(self.check("a|" * 998 + "bc", "b" * 999 + "c"), (998, 2))
        self.assertEqual(self.check("[" + "xy" * 998 + "a]*", "ax" * 500), (0, 1000))
        self.assertIsNone(self.check("(ab|a)*" * 285 + "c", "aab" * 333))

    def test_mixed_ones(self):
        for seed in range(8):
            pattern = "(a" + mixed_signs("ab.?|", 1000, seed).replace("?", "a?").replace("|", "|a") + ")*c"
            self.check(pattern, mixed_signs("aaab", 999, seed) + "c")


if __name__ == "__main__":
    unittest.main()
