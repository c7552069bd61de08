import inspect
import unittest

from patternback.nets import net_of
from patternback.reading import read
from patternback.trees import size
from plain_matcher import ends
from plain_nets import in_order, led_to, other_numberings, plainly_numbered, ways
from samples import A, ANY, B, C, D, EMPTY, NONE
from samples import but, many, maybe, nested, pick, plain_size, row, small_trees, take, texts

END = ("end",)
TREES = small_trees(1) + small_trees(2)[::7]


def taking(sign, then):
    return ("take", True, sign, then)


def ends_of(net, text, place):
    """The ends that the net leads to, the preferred ones first, each once."""
    return list(dict.fromkeys(way[-1][1] for way in ways(net, text, place)))


class TestInterface(unittest.TestCase):
    def test_it_is_defined_in_its_file_with_its_argument(self):
        self.assertEqual(net_of.__module__, "patternback.nets")
        self.assertEqual(list(inspect.signature(net_of).parameters), ["tree"])

    def test_the_kinds_of_what_is_told(self):
        for tree in TREES:
            net = net_of(tree)
            self.assertEqual([type(part) for part in net], [int, list])
            self.assertEqual({type(step) for step in net[1]}, {tuple})
            self.assertIs(type(net), tuple)

    def test_the_numbers_are_the_same_each_time(self):
        for tree in TREES[::10]:
            self.assertEqual(net_of(tree), net_of(tree))

    def test_what_was_told_may_be_changed(self):
        tree = row(many(A), B)
        net = net_of(tree)
        expected = (net[0], list(net[1]))
        net[1].reverse()
        net[1].append("more")
        self.assertEqual(net_of(tree), expected)


class TestForm(unittest.TestCase):
    def check_step(self, step, steps):
        numbers = range(len(steps))
        if step[0] == "take":
            self.assertEqual([type(part) for part in step], [str, bool, str, int])
        elif step[0] == "part":
            self.assertEqual([type(part) for part in step], [str, int, int])
        else:
            self.assertEqual(step, END)
        for number in led_to(step):
            self.assertIn(number, numbers)

    def test_each_step_is_a_take_a_part_or_the_end(self):
        for tree in TREES:
            first, steps = net_of(tree)
            self.assertIn(first, range(len(steps)))
            for step in steps:
                self.check_step(step, steps)

    def test_as_many_steps_as_the_size(self):
        for tree in TREES:
            net = net_of(tree)
            self.assertEqual(len(net[1]), size(tree), tree)
            self.assertEqual(len(net[1]), plain_size(tree), tree)

    def test_just_one_end(self):
        for tree in TREES:
            self.assertEqual(net_of(tree)[1].count(END), 1, tree)

    def test_each_step_is_come_to(self):
        for tree in TREES:
            net = net_of(tree)
            self.assertEqual(sorted(in_order(net)), list(range(len(net[1]))), tree)

    def test_no_step_leads_back_to_itself_without_a_sign_taken(self):
        for tree in TREES:
            steps = net_of(tree)[1]
            for number in range(len(steps)):
                self.check_no_way_back(number, steps)

    def check_no_way_back(self, number, steps):
        met = {}
        waiting = [number]
        while waiting:
            step = steps[waiting.pop()]
            if step[0] == "part":
                self.assertNotIn(number, led_to(step))
                waiting.extend(other for other in led_to(step) if other not in met)
                met.update(dict.fromkeys(led_to(step)))


class TestSmallNets(unittest.TestCase):
    def check(self, tree, *steps):
        # Which numbers they have isn't promised, so they are compared in the order in which they are come to.
        self.assertEqual(plainly_numbered(net_of(tree)), (0, list(steps)))

    def test_a_take(self):
        self.check(A, taking("a", 1), END)
        self.check(NONE, taking("", 1), END)
        self.check(ANY, ("take", False, "", 1), END)
        self.check(but("aab"), ("take", False, "aab", 1), END)
        self.check(take("ba"), ("take", True, "ba", 1), END)

    def test_a_row(self):
        self.check(row(A, B), taking("a", 1), taking("b", 2), END)
        self.check(row(A, B, C), taking("a", 1), taking("b", 2), taking("c", 3), END)
        self.check(row(row(A, B), C), taking("a", 1), taking("b", 2), taking("c", 3), END)
        self.check(row(A, EMPTY, B), taking("a", 1), taking("b", 2), END)

    def test_a_row_without_parts(self):
        self.check(EMPTY, END)
        self.check(row(EMPTY, EMPTY), END)

    def test_a_pick(self):
        self.check(pick(A, B), ("part", 1, 3), taking("a", 2), END, taking("b", 2))
        self.check(pick(row(A, B), C), ("part", 1, 4), taking("a", 2), taking("b", 3), END, taking("c", 3))

    def test_a_pick_whose_parts_take_nothing(self):
        self.check(pick(EMPTY, EMPTY), ("part", 1, 1), END)
        self.check(pick(EMPTY, A), ("part", 1, 2), END, taking("a", 1))
        self.check(pick(A, EMPTY), ("part", 1, 2), taking("a", 2), END)

    def test_a_maybe(self):
        self.check(maybe(A), ("part", 1, 2), taking("a", 2), END)
        self.check(maybe(A, False), ("part", 1, 2), END, taking("a", 1))
        self.check(maybe(EMPTY), ("part", 1, 1), END)
        self.check(row(maybe(A), B), ("part", 1, 2), taking("a", 2), taking("b", 3), END)

    def test_a_many(self):
        self.check(many(A), ("part", 1, 2), taking("a", 0), END)
        self.check(many(A, False), ("part", 1, 2), END, taking("a", 0))
        self.check(row(many(A), B), ("part", 1, 2), taking("a", 0), taking("b", 3), END)
        self.check(many(row(A, B)), ("part", 1, 3), taking("a", 2), taking("b", 0), END)

    def test_trees_within_each_other(self):
        self.check(
            many(row(A, maybe(B, False)), False),
            ("part", 1, 2), END, taking("a", 3), ("part", 0, 4), taking("b", 0),
        )
        self.check(
            row(many(pick(A, B)), C),
            ("part", 1, 4), ("part", 2, 3), taking("a", 0), taking("b", 0), taking("c", 5), END,
        )


class TestWays(unittest.TestCase):
    def check(self, tree, text, place, *told):
        self.assertEqual(ends_of(net_of(tree), text, place), list(told))
        # What the tests go by elsewhere has to say so, too.
        self.assertEqual(ends(tree, text, place), list(told))

    def test_a_take(self):
        self.check(A, "ab", 0, 1)
        self.check(A, "ab", 1)
        self.check(A, "ab", 2)
        self.check(ANY, "ab", 1, 2)
        self.check(NONE, "ab", 0)
        self.check(but("a"), "ab", 1, 2)

    def test_a_row(self):
        self.check(row(A, B), "ab", 0, 2)
        self.check(row(A, B), "aab", 0)
        self.check(EMPTY, "ab", 0, 0)
        self.check(EMPTY, "ab", 2, 2)
        self.check(row(many(A), many(A)), "aa", 0, 2, 1, 0)

    def test_a_pick(self):
        self.check(pick(A, row(A, B)), "ab", 0, 1, 2)
        self.check(pick(row(A, B), A), "ab", 0, 2, 1)
        self.check(pick(EMPTY, row(A, B), A), "ab", 0, 0, 2, 1)

    def test_a_maybe_and_a_many(self):
        self.check(maybe(A), "aa", 0, 1, 0)
        self.check(maybe(A, False), "aa", 0, 0, 1)
        self.check(many(A), "aab", 0, 2, 1, 0)
        self.check(many(A, False), "aab", 0, 0, 1, 2)
        self.check(many(A), "aab", 3, 3)
        self.check(many(pick(A, row(A, A))), "aaa", 0, 3, 2, 1, 0)

    def test_of_ends_that_come_twice_the_first_one_counts(self):
        self.check(pick(A, A), "a", 0, 1)
        self.check(row(maybe(A, False), maybe(A)), "aa", 0, 1, 0, 2)
        self.check(row(maybe(A), maybe(A, False)), "aa", 0, 1, 2, 0)
        self.check(pick(EMPTY, A, EMPTY), "a", 0, 0, 1)

    def test_small_trees(self):
        for tree in TREES:
            net = net_of(tree)
            for text in ("", "a", "ab", "!aa", "a]~"):
                for place in range(len(text) + 1):
                    self.assertEqual(ends_of(net, text, place), ends(tree, text, place), (tree, text, place))

    def test_trees_within_each_other(self):
        for pattern in ("(a|ab)(b*!|c)?", "((a|b)*!a)*(b|)", "(a?b|a)*!b?!", "a*!a?(a|)b*", "(a(b|a*!)c?!)*|b"):
            tree = read(pattern)
            net = net_of(tree)
            for text in texts("abc", 4):
                self.assertEqual(ends_of(net, text, 0), ends(tree, text, 0), (pattern, text))

    def test_nets_that_are_numbered_in_another_way_are_as_good(self):
        # The tests hand such nets to trying and sweeping, so they have to be what they are called.
        for tree in TREES[::20]:
            net = net_of(tree)
            for other in other_numberings(net):
                self.assertEqual(plainly_numbered(other), plainly_numbered(net))
                self.assertEqual(ends_of(other, "ab!", 0), ends(tree, "ab!", 0))
        firsts = [[net[1].index(END) for net in other_numberings(net_of(tree))] for tree in (A, many(B))]
        self.assertEqual([(places[1], places[2]) for places in firsts], [(0, 1), (0, 2)])


class TestLimits(unittest.TestCase):
    def check(self, tree):
        net = net_of(tree)
        self.assertEqual(len(net[1]), plain_size(tree))
        self.assertEqual(net[1].count(END), 1)
        self.assertEqual(len(in_order(net)), len(net[1]))
        return plainly_numbered(net)[1]

    def test_a_row_of_2000_parts(self):
        steps = self.check(row(*[A] * 2000))
        self.assertTrue(steps == [taking("a", then) for then in range(1, 2001)] + [END])
        self.check(row(*[maybe(A), many(B, False)] * 500))

    def test_a_pick_of_2001_parts(self):
        self.check(pick(*[EMPTY] * 2001))
        self.check(pick(*[A] * 1000))

    def test_the_deepest(self):
        self.check(nested(A, 99))
        deep = A
        for _ in range(33):
            deep = many(pick(row(B, deep), C))
        self.check(deep)
        self.check(read("(ab?" * 30 + "c" * 1790 + ")*" * 30))
        self.check(read("b|a(" * 30 + "b|ac?" + ")?!" * 30))

    def test_a_tree_somewhat_deeper_than_that(self):
        self.check(nested(row(A, D), 150))


if __name__ == "__main__":
    unittest.main()
