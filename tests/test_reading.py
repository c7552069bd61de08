import inspect
import unittest

from patternback.errors import EmptyRound, NothingAhead, PatternError, TooDeep, Unclosed, Unopened
from patternback.reading import read
from patternback.trees import shown
from plain_reader import plainly_read
from samples import A, ANY, B, C, D, EMPTY, NONE, SIGNS, SPECIAL
from samples import but, many, maybe, nested, pick, row, take, texts


def outcome(reader, pattern):
    """The tree that is read, or the class of the refusal."""
    try:
        return reader(pattern)
    except PatternError as error:
        return type(error)


class TestInterface(unittest.TestCase):
    def test_it_is_defined_in_its_file_with_its_argument(self):
        self.assertEqual(read.__module__, "patternback.reading")
        self.assertEqual(list(inspect.signature(read).parameters), ["pattern"])

    def test_reading_keeps_nothing_for_the_next_time(self):
        first = read("(a|b)*c")
        self.assertEqual(outcome(read, "(a|b"), Unclosed)
        self.assertEqual(read("(a|b)*c"), first)

    def test_trees_are_tuples_and_texts_throughout(self):
        waiting = [read("(a|[!b]*!|)(c.)?()")]
        kinds = {}
        while waiting:
            tree = waiting.pop()
            self.assertIs(type(tree), tuple)
            kinds[tree[0]] = True
            if tree[0] == "take":
                self.assertEqual([type(part) for part in tree], [str, bool, str])
            elif tree[0] in ("row", "pick"):
                self.assertEqual([type(part) for part in tree], [str, tuple])
                waiting.extend(tree[1])
            else:
                self.assertEqual([type(part) for part in tree], [str, tuple, bool])
                waiting.append(tree[1])
        self.assertEqual(sorted(kinds), ["many", "maybe", "pick", "row", "take"])


class TestRead(unittest.TestCase):
    def check(self, pattern, tree):
        self.assertEqual(read(pattern), tree, pattern)

    def test_a_sign_takes_itself(self):
        for sign in SIGNS:
            if sign not in "()|*?.[]~":
                self.check(sign, take(sign))

    def test_behind_a_wave_each_sign_takes_itself(self):
        for sign in SIGNS:
            self.check("~" + sign, take(sign))
            self.check("a~" + sign + "b", row(A, take(sign), B))
            self.check("(~" + sign + ")", take(sign))
            self.check("~" + sign + "*", many(take(sign)))

    def test_a_dot_takes_any_sign(self):
        self.check(".", ANY)
        self.check("a.b", row(A, ANY, B))
        self.check(".*", many(ANY))

    def test_rows(self):
        self.check("", EMPTY)
        self.check("ab", row(A, B))
        self.check("abc", row(A, B, C))
        self.check("a b\tc\n", row(A, take(" "), B, take("\t"), C, take("\n")))

    def test_picks(self):
        self.check("a|b", pick(A, B))
        self.check("a|b|c", pick(A, B, C))
        self.check("ab|c", pick(row(A, B), C))
        self.check("a|bc", pick(A, row(B, C)))
        self.check("|", pick(EMPTY, EMPTY))
        self.check("a||b", pick(A, EMPTY, B))
        self.check("|a", pick(EMPTY, A))
        self.check("a|", pick(A, EMPTY))

    def test_groups(self):
        self.check("()", EMPTY)
        self.check("(a)", A)
        self.check("((a))", A)
        self.check("(ab)", row(A, B))
        self.check("(|a)", pick(EMPTY, A))
        self.check("(a|b)", pick(A, B))
        self.check("(ab)c", row(row(A, B), C))
        self.check("a(b|c)d", row(A, pick(B, C), D))
        self.check("(a|b)|c", pick(pick(A, B), C))
        self.check("(ab)|c", pick(row(A, B), C))
        self.check("()()", row(EMPTY, EMPTY))
        self.check("(())", EMPTY)
        self.check("(()())", row(EMPTY, EMPTY))
        self.check("()|()", pick(EMPTY, EMPTY))
        self.check("a(b(c|)d)", row(A, row(B, pick(C, EMPTY), D)))

    def test_sets(self):
        self.check("[a]", A)
        self.check("[ab]", take("ab"))
        self.check("[ba]", take("ba"))
        self.check("[aa]", take("aa"))
        self.check("[!a]", but("a"))
        self.check("[!ab]", but("ab"))
        self.check("[]", NONE)
        self.check("[!]", ANY)
        self.check("[ab]c[!d]", row(take("ab"), C, but("d")))
        self.check("[]a", row(NONE, A))
        self.check("[!]a", row(ANY, A))
        self.check("[a-c]", take("a-c"))

    def test_in_a_set_each_sign_but_its_end_stands_for_itself(self):
        for sign in SIGNS:
            if sign not in "]~":
                self.check("[a" + sign + "]", take("a" + sign))
                self.check("[!" + sign + "]", but(sign))
            if sign not in "]~!":
                self.check("[" + sign + "]", take(sign))
        self.check("[(|*?.[)]", take("(|*?.[)"))
        self.check("[[]", take("["))
        self.check("[a!]", take("a!"))
        self.check("[!!]", but("!"))
        self.check("[!a!]", but("a!"))

    def test_in_a_set_behind_a_wave_each_sign_stands_for_itself(self):
        for sign in SIGNS:
            self.check("[~" + sign + "]", take(sign))
            self.check("[!~" + sign + "]", but(sign))
            self.check("[a~" + sign + "b]", take("a" + sign + "b"))
        self.check("[~]]", take("]"))
        self.check("[~~]", take("~"))
        self.check("[~!a]", take("!a"))

    def test_repeats(self):
        self.check("a*", many(A))
        self.check("a?", maybe(A))
        self.check("ab*", row(A, many(B)))
        self.check("a?b", row(maybe(A), B))
        self.check("a|b*", pick(A, many(B)))
        self.check("[ab]*", many(take("ab")))
        self.check("[]*", many(NONE))
        self.check("[!]?", maybe(ANY))
        self.check("(ab)*", many(row(A, B)))
        self.check("(a|b)?", maybe(pick(A, B)))
        self.check("()?", maybe(EMPTY))
        self.check("(|a)?", maybe(pick(EMPTY, A)))
        self.check("(a*)?", maybe(many(A)))
        self.check("(a?)?", maybe(maybe(A)))
        self.check("(aa?)*", many(row(A, maybe(A))))
        self.check("(a*b)*", many(row(many(A), B)))

    def test_repeats_that_are_not_eager(self):
        self.check("a*!", many(A, False))
        self.check("a?!", maybe(A, False))
        self.check("[ab]*!c", row(many(take("ab"), False), C))
        self.check("(ab)?!|c", pick(maybe(row(A, B), False), C))
        self.check("(a*!)?!", maybe(many(A, False), False))

    def test_an_exclamation_mark_elsewhere_is_a_sign(self):
        mark = take("!")
        self.check("!", mark)
        self.check("!!", row(mark, mark))
        self.check("a!", row(A, mark))
        self.check("!*", many(mark))
        self.check("!?!", maybe(mark, False))
        self.check("a!*", row(A, many(mark)))
        self.check("a*!!", row(many(A, False), mark))
        self.check("a?!!*!", row(maybe(A, False), many(mark, False)))
        self.check("a*~!", row(many(A), mark))
        self.check("a*(!)", row(many(A), mark))
        self.check("a*|!", pick(many(A), mark))
        self.check("(a*)!", row(many(A), mark))
        self.check("(!a)", row(mark, A))
        self.check("a|!", pick(A, mark))
        self.check("~*!", row(take("*"), mark))
        self.check("~[!", row(take("["), mark))
        self.check("[*]!", row(take("*"), mark))
        self.check("[a]!", row(A, mark))
        self.check("[?!]", take("?!"))


class TestRefusals(unittest.TestCase):
    def check(self, error, *patterns):
        for pattern in patterns:
            self.assertIs(outcome(read, pattern), error, pattern)

    def test_unopened(self):
        self.check(Unopened, ")", "]", "a)", "a]", "ab)c", "(a))", "()())", "[a]]", "[]]", "a|)", "a*)", "a*!]")
        self.check(Unopened, "(])", "(a])", "(a|]", "((a)])", "(]", "~[]", "~()", "a]b", "[!]]")

    def test_nothing_ahead_at_the_beginning(self):
        self.check(NothingAhead, "*", "?", "*a", "?!", "*!", "**")

    def test_nothing_ahead_behind_an_open_bracket(self):
        self.check(NothingAhead, "(*", "(?", "(*)", "a(?b)", "((*", "(?!)", "()(*)")

    def test_nothing_ahead_behind_a_bar(self):
        self.check(NothingAhead, "|*", "a|?", "a|*b", "(a|*)", "a||?", "(|?", "a*|*")

    def test_nothing_ahead_behind_another_repeat(self):
        self.check(NothingAhead, "a**", "a*?", "a?*", "a??", "(a)**", "[a]?*", "a*!*", "a?!?", "(a??", "b|a**", "()?*")

    def test_an_empty_round(self):
        self.check(EmptyRound, "()*", "(a*)*", "(a?)*", "(|a)*", "(a|)*", "(a?b*)*", "(a|b|c?)*", "(()())*", "(a*!)*!")
        self.check(EmptyRound, "a()*", "(()*", "((a?)*)", "a|()*", "(a|(b?)*)", "()*!", "()**", "((|a)|b)*", "((()))*")

    def test_too_deep(self):
        self.check(TooDeep, "(" * 31, "(" * 31 + "a" + ")" * 31, "a" + "(" * 31, "(a|" * 30 + "b(")
        self.check(TooDeep, "()(a)" + "(" * 31, "(" * 30 + "()", "(" * 30 + "a*(", "(" * 32, "(" * 29 + "()(((")

    def test_unclosed_group(self):
        self.check(Unclosed, "(", "(a", "a(", "(a|", "((a)", "(a*", "(" * 30, "a|(b", "(()", "a(b(c)")

    def test_unclosed_set(self):
        self.check(Unclosed, "[", "[!", "[a", "[!a", "a[", "(a[b)", "[[", "[a)", "[*", "[**|(", "[~]", "[!~]", "[a~]", "(a)[")

    def test_nothing_behind_a_wave(self):
        self.check(Unclosed, "~", "a~", "(a~", "(~", "[~", "[a~", "[!~", "~~~", "a|~", "a*~", "(a)~", "([~")

    def test_special_signs_that_are_none_there(self):
        for sign in SPECIAL:
            self.assertEqual(read("~" + sign), take(sign))
            self.assertEqual(read("[~" + sign + "]"), take(sign))
        self.assertEqual(read("~(" * 40), row(*[take("(")] * 40))
        self.assertEqual(read("[" + "(" * 40 + "]"), take("(" * 40))

    def test_as_many_open_groups_as_may_be(self):
        self.assertEqual(read("(" * 30 + "a" + ")" * 30), A)
        self.assertEqual(read("(" * 30 + ")" * 30), EMPTY)
        self.assertEqual(read("(" * 30 + "a)?" + ")?" * 29), nested(A, 30))
        self.assertEqual(read("(" * 30 + "[(]~(" + ")" * 30), row(take("("), take("(")))
        self.assertEqual(read("(" * 29 + "(a)(b)(c)" + ")" * 29), row(A, B, C))
        self.assertEqual(read("(a)" * 40), row(*[A] * 40))

    def test_the_first_wrong_place_decides(self):
        self.check(Unopened, ")*", ")**", ")(", "])", "a)(*", "a))*" + "(" * 31, "a]*", ")[", ")~")
        self.check(NothingAhead, "*)", "**", "(*(", "|*]", "*" + "(" * 31, "*()*", "a**)", "*[", "?~", "(**")
        self.check(EmptyRound, "()*)", "()**", "()*" + "(" * 31, "()*[", "(()*", "()*|*", "(a?)*~")
        self.check(TooDeep, "(" * 31 + "*", "(" * 31 + ")" * 40, "(" * 31 + "()*", "(" * 31 + "[", "(" * 31 + "~")
        self.check(NothingAhead, "(" * 30 + "*(")
        self.check(Unopened, "(" * 30 + "](")
        self.check(EmptyRound, "(" * 29 + "()*(((")

    def test_any_refusal_is_a_pattern_error(self):
        for pattern in ("(", ")", "*", "()*", "(" * 31):
            with self.assertRaises(PatternError):
                read(pattern)
            with self.assertRaises(ValueError):
                read(pattern)


class TestAllSmallPatterns(unittest.TestCase):
    def test_they_are_read_as_another_reader_reads_them(self):
        for pattern in texts("a(|)*?.[]~!", 5):
            self.assertEqual(outcome(read, pattern), outcome(plainly_read, pattern), pattern)

    def test_longer_ones_with_groups_and_repeats(self):
        for pattern in texts("a(|)*!", 6):
            self.assertEqual(outcome(read, pattern), outcome(plainly_read, pattern), pattern)

    def test_longer_ones_with_sets(self):
        for pattern in texts("[]!~*b", 6):
            self.assertEqual(outcome(read, pattern), outcome(plainly_read, pattern), pattern)

    def test_what_is_read_is_written_and_read_again(self):
        for pattern in texts("a(|)*?.[]~!", 4):
            tree = outcome(read, pattern)
            if isinstance(tree, tuple):
                self.assertEqual(read(shown(tree)), tree, pattern)

    def test_nothing_behind_a_refused_sign_matters(self):
        for pattern in texts("a(|)*?[]~!", 4):
            told = outcome(read, pattern)
            if told in (Unopened, NothingAhead, EmptyRound, TooDeep):
                for more in "a()*[]~|":
                    self.assertIs(outcome(read, pattern + more), told, pattern + more)


class TestLimits(unittest.TestCase):
    def check(self, pattern, tree):
        # assertEqual would take long to show how large trees differ.
        self.assertTrue(read(pattern) == tree)

    def test_a_row_of_2000_pieces(self):
        self.check("a" * 2000, row(*[A] * 2000))
        self.check("a*" * 1000, row(*[many(A)] * 1000))
        self.check("()" * 1000, row(*[EMPTY] * 1000))
        self.check("[]" * 1000, row(*[NONE] * 1000))

    def test_a_pick_of_many_rows(self):
        self.check("a|" * 999 + "ab", pick(*[A] * 999, row(A, B)))
        self.check("|" * 2000, pick(*[EMPTY] * 2001))
        self.check("(" + "|" * 1997 + ")?", maybe(pick(*[EMPTY] * 1998)))

    def test_a_set_of_many_signs(self):
        self.check("[" + "a" * 1998 + "]", take("a" * 1998))
        self.check("[!" + "~]" * 998 + "]", but("]" * 998))

    def test_the_deepest_and_longest(self):
        tree = row(A, maybe(B), *[C] * 1790)
        for _ in range(29):
            tree = row(A, maybe(B), many(tree))
        self.check("(ab?" * 30 + "c" * 1790 + ")*" * 30, many(tree))

    def test_the_deepest_and_longest_that_is_refused(self):
        self.assertIs(outcome(read, "(a?" * 30 + "b?" * 900 + ")?" * 29 + ")*"), EmptyRound)
        self.assertIs(outcome(read, "(a?" * 30 + "b" * 1850 + ")*" * 30), EmptyRound)

    def test_the_deepest_tree_that_is_read(self):
        tree = pick(B, row(A, maybe(C)))
        for _ in range(30):
            tree = pick(B, row(A, maybe(tree, False)))
        self.check("b|a(" * 30 + "b|ac?" + ")?!" * 30, tree)

    def test_late_refusals(self):
        self.assertIs(outcome(read, "a" * 1999 + ")"), Unopened)
        self.assertIs(outcome(read, "a" * 1998 + "**"), NothingAhead)
        self.assertIs(outcome(read, "(" + "a?" * 998 + ")*"), EmptyRound)
        self.assertIs(outcome(read, "(" + "a" * 1999), Unclosed)
        self.assertIs(outcome(read, "a" * 1999 + "~"), Unclosed)
        self.assertIs(outcome(read, "a" * 1969 + "(" * 31), TooDeep)


if __name__ == "__main__":
    unittest.main()
