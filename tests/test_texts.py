import itertools
import re
import unittest

from showtree import texts
from showtree.errors import Unread
from showtree.statements import is_statement, parts
from showtree.texts import read, written
from tests.samples import A, B, C, FALSE, SLIM, bushy_statement, deep_by_both, small_statements

# All signs of which texts are made: the blank to ~, line ends and tabs.
SIGNS = [chr(code) for code in range(32, 127) if chr(code) != chr(37)] + ["\n", "\r", "\t"]

REFUSED = [
    # nothing, or nothing that is written
    "", " ", "  ", "\n", "\t", "()", "( )", "(())", "(a)", "((a & b))", "(#)", "##", "# #", "a b", "ab c",
    # blanks too many or too few
    " a", "a ", " #", "# ", " (a & b)", "(a & b) ", "( a & b)", "(a & b )", "(a  & b)", "(a &  b)", "(a& b)",
    "(a &b)", "(a&b)", "(a  &  b)", "(a & (b | c) )", "( (a & b) | c)", "(a b)", "(a  b)", "a & b ", "(a & b c)",
    # line ends and tabs
    "a\n", "\na", "a\t", "\ta", "(a\t& b)", "(a &\tb)", "(a & b)\n", "\n(a & b)", "(a\n& b)", "(a &\nb)",
    "(a & b\n)", "(a\n\n&\n\nb)", "a\r", "a\r\n", "#\n",
    # brackets missing or too many
    "a & b", "a & b)", "(a & b", "(a & b))", "((a & b)", "(a & (b | c)", "((a & b) | c", "(a & b | c)", "a)", "(a",
    "(", ")", ")(", "((", "))", "(((", "(a & b)(c & d)", "[a & b]", "{a & b}", "<a & b>", "(a) & (b)",
    # something behind a whole statement, or ahead of it
    "a#", "#a", "a(b & c)", "(a & b)c", "(a & b)#", "#(a & b)", "(a & b) & c", "c & (a & b)", "(a & b) (c & d)",
    "(a & b).", "a,", "a.", ";a", "(a & b)a", "(a#& b)", "(a & b#)", "a a", "# a",
    # names
    "abcdefghi", "(abcdefghi & b)", "(b | abcdefghi)", "A", "aB", "Ab", "abcdefgH", "(A & b)", "(a & B)", "a1", "1",
    "1a", "a_b", "a-b", "a'", "\"a\"", "`", "{", "a`", "z{", "(a` & b)", "\u00e4", "\u0430", "\uff41",
    # signs and operators
    "!", "@", "~", "~a", "(~a)", "$", "&", "|", ">", " & ", "& a", "a &", "(a &)", "(& a)", "( & a)", "(a & )",
    "( & )", "(a)", "(a  b)", "(a && b)", "(a || b)", "(a >> b)", "(a -> b)", "(a => b)", "(a & & b)", "(a | & b)",
    "(a & | b)", "(a & b & c)", "(a + b)", "(a < b)", "(a and b)", "(a or b)", "(a then b)", "(a = b)", "(a , b)",
    "(a # b)", "(a ( b)", "(a ) b)", "(a & b | )", "(> a b)", "(a b &)", "false ", "('and', a, b)",
]


class WrittenTest(unittest.TestCase):
    def test_each_kind_sign_by_sign(self):
        self.assertEqual(written(A), "a")
        self.assertEqual(written(("name", "abcdefgh")), "abcdefgh")
        self.assertEqual(written(FALSE), "#")
        self.assertEqual(written(("and", A, B)), "(a & b)")
        self.assertEqual(written(("or", A, B)), "(a | b)")
        self.assertEqual(written(("then", A, B)), "(a > b)")

    def test_each_with_its_brackets(self):
        self.assertEqual(written(("and", ("and", A, B), C)), "((a & b) & c)")
        self.assertEqual(written(("and", A, ("and", B, C))), "(a & (b & c))")
        self.assertEqual(written(("then", ("or", A, FALSE), ("and", ("then", B, A), C))), "((a | #) > ((b > a) & c))")

    def test_a_name_that_is_a_word(self):
        self.assertEqual(written(("or", ("name", "and"), ("name", "false"))), "(and | false)")

    def test_30_deep(self):
        self.assertEqual(written(SLIM[0](30)), "(" * 29 + "a" + " & b)" * 29)
        self.assertEqual(written(SLIM[1](30)), "(b & " * 29 + "a" + ")" * 29)

    def test_other_statements_have_other_texts(self):
        row = small_statements(3)
        self.assertEqual(len({written(statement) for statement in row}), len(row))

    def test_many_parts(self):
        text = written(bushy_statement(12))
        self.assertEqual(text.count("("), 2 ** 12 - 1)
        self.assertEqual(len(text), 4 * 2 ** 12 + 5 * (2 ** 12 - 1))

    def test_the_statement_is_not_changed(self):
        statement = ("then", ("and", A, B), A)
        self.assertEqual(written(statement), written(statement))
        self.assertEqual(statement, ("then", ("and", ("name", "a"), ("name", "b")), ("name", "a")))


class ReadTest(unittest.TestCase):
    def assert_refused(self, text):
        with self.assertRaises(Unread, msg=repr(text)) as caught:
            read(text)
        self.assertIs(type(caught.exception), Unread)

    def test_each_kind(self):
        self.assertEqual(read("a"), A)
        self.assertEqual(read("z"), ("name", "z"))
        self.assertEqual(read("abcdefgh"), ("name", "abcdefgh"))
        self.assertEqual(read("#"), FALSE)
        self.assertEqual(read("(a & b)"), ("and", A, B))
        self.assertEqual(read("(a | b)"), ("or", A, B))
        self.assertEqual(read("(a > b)"), ("then", A, B))
        self.assertEqual(read("((a | #) > ((b > a) & c))"),
                         ("then", ("or", A, FALSE), ("and", ("then", B, A), C)))

    def test_names_that_are_words(self):
        self.assertEqual(read("false"), ("name", "false"))
        self.assertEqual(read("(and > then)"), ("then", ("name", "and"), ("name", "then")))

    def test_what_was_written_is_read_just_so(self):
        rows = small_statements(3) + [deep(30) for deep in SLIM] + [deep_by_both(12), bushy_statement(11)]
        for statement in rows:
            told = read(written(statement))
            self.assertEqual(told, statement)
            self.assertIs(is_statement(told), True)

    def test_refused_texts(self):
        for text in REFUSED:
            self.assert_refused(text)

    def test_names_of_9_signs_and_more(self):
        for length in (9, 10, 16, 17, 1000):
            self.assert_refused("a" * length)
            self.assert_refused("(b & " + "a" * length + ")")
            self.assert_refused("(" + "a" * length + " & b)")

    def test_each_single_sign(self):
        for sign in SIGNS:
            if "a" <= sign <= "z":
                self.assertEqual(read(sign), ("name", sign))
            elif sign == "#":
                self.assertEqual(read(sign), FALSE)
            else:
                self.assert_refused(sign)

    def test_all_short_texts(self):
        known = {written(statement): statement for statement in small_statements(2, (A, ("name", "aa"), FALSE))}
        for length in range(8):
            for row in itertools.product("a#(&> )", repeat=length):
                self.check("".join(row), known)

    def check(self, text, known):
        """Each text of up to 7 signs is that of a known statement, or a longer name, or refused."""
        if text in known:
            self.assertEqual(read(text), known[text])
        elif text and set(text) == {"a"}:
            self.assertEqual(read(text), ("name", text))
        else:
            self.assert_refused(text)

    def test_each_change_of_one_sign(self):
        pattern = pattern_of(5)
        for good in ("#", "ab", "(a & #)", "((ab | b) > (# & c))", "(a > (b > (c > abcdefgh)))"):
            for at in range(len(good) + 1):
                self.check_change(good[:at] + good[at + 1:], pattern)
                for sign in SIGNS:
                    self.check_change(good[:at] + sign + good[at:], pattern)
                    self.check_change(good[:at] + sign + good[at + 1:], pattern)

    def check_change(self, text, pattern):
        if pattern.fullmatch(text):
            self.assertEqual(written(read(text)), text)
        else:
            self.assert_refused(text)

    def test_30_deep_is_read_and_31_deep_is_refused(self):
        for deep in SLIM:
            self.assertEqual(read(written(deep(30))), deep(30))
            self.assert_refused(written(deep(31)))
            self.assert_refused(written(deep(36)))

    def test_too_deep_in_one_half_only(self):
        fits, too_deep = written(SLIM[0](29)), written(SLIM[0](30))
        self.assertEqual(read("(a > " + fits + ")"), ("then", A, SLIM[0](29)))
        self.assertEqual(read("(" + fits + " > a)"), ("then", SLIM[0](29), A))
        self.assert_refused("(a > " + too_deep + ")")
        self.assert_refused("(" + too_deep + " > a)")

    def test_200_deep_and_far_more(self):
        for deep in (32, 200, 5000, 100000):
            self.assert_refused("(" * deep + "a" + " & b)" * deep)
            self.assert_refused("(b | " * deep + "#" + ")" * deep)
            self.assert_refused("(" * deep)
            self.assert_refused(")" * deep)

    def test_a_good_text_behind_a_refused_one(self):
        for text in REFUSED + ["(" * 200, "(a & " * 31]:
            self.assert_refused(text)
            self.assertEqual(read("(a > (b | #))"), ("then", A, ("or", B, FALSE)))

    def test_nothing_is_kept_between_calls(self):
        told = read("(a & b)")
        parts(told).clear()
        self.assertEqual(read("(a & b)"), ("and", A, B))
        self.assertEqual(read("(b & a)"), ("and", B, A))
        self.assertEqual(told, ("and", A, B))

    def test_statements_of_many_parts(self):
        statement = bushy_statement(12)
        self.assertEqual(read(written(statement)), statement)


def pattern_of(deep):
    """What the texts of all statements no more than deep look like: the rules of [6] in another way."""
    pattern = "(?:[a-z]{1,8}|#)"
    for _ in range(deep - 1):
        pattern = "(?:[a-z]{1,8}|#|[(]" + pattern + " [&|>] " + pattern + "[)])"
    return re.compile(pattern)


class InterfaceTest(unittest.TestCase):
    def test_both_are_defined_in_the_file_of_the_texts(self):
        for name in ("written", "read"):
            self.assertEqual(getattr(texts, name).__module__, "showtree.texts")


if __name__ == "__main__":
    unittest.main()
