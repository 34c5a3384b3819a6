import copy
import unittest

from showtree import statements
from showtree.statements import is_name, is_statement, numbered, parts
from showtree.texts import written
from tests.samples import (
    A, B, C, FALSE, SLIM, WIDE, WORDS, WRONG_THINGS, bushy_statement, changed, deep_by_both, deep_by_first,
    deep_by_turns, deep_by_two, places, small_statements)

LETTERS = "abcdefghijklmnopqrstuvwxyz"
# Next to a and to z, capitals, digits, blanks, and letters that are not ASCII (the last four look like a to z).
WRONG_SIGNS = ["`", "{", "A", "Z", "M", "0", "9", " ", "\n", "\t", "_", "-", "#", "(", "\x00",
               "\u00e4", "\u00df", "\u00aa", "\u0430", "\uff41", "\u0131"]


class IsNameTest(unittest.TestCase):
    def test_each_letter_is_a_name(self):
        for letter in LETTERS:
            self.assertIs(is_name(letter), True)

    def test_names_of_1_to_8_signs(self):
        for length in range(1, 9):
            self.assertIs(is_name(LETTERS[:length]), True)
            self.assertIs(is_name("z" * length), True)

    def test_none_and_nine_signs_and_more(self):
        for length in (0, 9, 10, 26, 1000):
            self.assertIs(is_name("a" * length), False)

    def test_a_wrong_sign_at_any_place(self):
        for length in range(1, 9):
            for at in range(length):
                for sign in WRONG_SIGNS:
                    self.assertIs(is_name("a" * at + sign + "a" * (length - at - 1)), False, (length, at, sign))

    def test_words_of_statements_are_names_too(self):
        for word in ("name", "false", "and", "or", "then"):
            self.assertIs(is_name(word), True)

    def test_what_is_no_text(self):
        for thing in (None, True, False, 0, 1, -5, 1.5, (), [], ("a",), ["a"], ("a", "b"), ("name", "a"), [[]]):
            self.assertIs(is_name(thing), False, thing)

    def test_things_36_deep(self):
        tuples, lists = "a", "a"
        for _ in range(36):
            tuples, lists = (tuples,), [lists]
        self.assertIs(is_name(tuples), False)
        self.assertIs(is_name(lists), False)


class IsStatementTest(unittest.TestCase):
    def test_the_five_kinds(self):
        for thing in (A, ("name", "abcdefgh"), FALSE, ("and", A, B), ("or", A, FALSE), ("then", FALSE, B)):
            self.assertIs(is_statement(thing), True, thing)

    def test_a_name_may_be_one_of_the_words(self):
        for word in ("name", "false", "and", "or", "then"):
            self.assertIs(is_statement(("name", word)), True)

    def test_all_small_ones(self):
        for statement in small_statements(3):
            self.assertIs(is_statement(statement), True, statement)

    def test_both_halves_may_be_alike(self):
        self.assertIs(is_statement(("and", A, A)), True)
        self.assertIs(is_statement(("then", ("or", A, A), ("or", A, A))), True)

    def test_wrong_things(self):
        for thing in WRONG_THINGS:
            self.assertIs(is_statement(thing), False, thing)

    def test_a_wrong_thing_at_any_place(self):
        whole = ("then", ("and", ("or", A, FALSE), ("then", B, A)), ("or", C, ("and", FALSE, A)))
        for way in places(whole):
            for thing in WRONG_THINGS:
                self.assertIs(is_statement(changed(whole, way, thing)), False, (way, thing))
            self.assertIs(is_statement(changed(whole, way, C)), True)

    def test_a_wrong_name_at_any_place(self):
        whole = ("or", ("and", A, B), ("then", C, A))
        for way in ((1, 1), (1, 2), (2, 1), (2, 2)):
            for sign in WRONG_SIGNS:
                self.assertIs(is_statement(changed(whole, way, ("name", "a" + sign))), False, (way, sign))

    def test_a_list_in_place_of_a_tuple_at_any_place(self):
        whole = ("then", ("and", ("or", A, FALSE), B), ("or", C, FALSE))
        for way in places(whole):
            part = whole
            for half in way:
                part = part[half]
            self.assertIs(is_statement(changed(whole, way, list(part))), False, way)

    def test_just_30_deep_and_31_deep(self):
        for deep in SLIM + WIDE:
            self.assertIs(is_statement(deep(29)), True, deep)
            self.assertIs(is_statement(deep(30)), True, deep)
            self.assertIs(is_statement(deep(31)), False, deep)
            self.assertIs(is_statement(deep(36)), False, deep)

    def test_too_deep_in_one_half_only(self):
        for deep in SLIM + WIDE:
            for word in WORDS:
                self.assertIs(is_statement((word, A, deep(29))), True)
                self.assertIs(is_statement((word, deep(29), A)), True)
                self.assertIs(is_statement((word, A, deep(30))), False)
                self.assertIs(is_statement((word, deep(30), A)), False)

    def test_a_part_that_comes_near_the_top_and_too_deep(self):
        part = deep_by_first(5)
        whole = part
        for _ in range(26):
            whole = ("or", part, whole)
        self.assertIs(is_statement(whole[2]), True)
        self.assertIs(is_statement(whole), False)

    def test_a_wrong_thing_far_inside(self):
        for thing in WRONG_THINGS:
            for deep in SLIM:
                whole = deep(30)
                for way in (max(places(whole), key=len), places(whole)[-1], places(whole)[-2]):
                    self.assertIs(is_statement(changed(whole, way, thing)), False, (way, thing))
            for deep in WIDE:
                for way in ((1,) * 28, (2,) * 28, (1, 2) * 14, (2, 2, 1)):
                    self.assertIs(is_statement(changed(deep(29), way, thing)), False, (way, thing))

    def test_things_36_deep(self):
        rows = [((), lambda thing: (thing,)), ([], lambda thing: [thing]), (A, lambda thing: (thing, thing)),
                (A, lambda thing: [thing, thing]), (A, lambda thing: ["and", thing, thing]),
                (A, lambda thing: ("and", thing, [thing])), ("a", lambda thing: ("name", thing)),
                (None, lambda thing: ("and", thing, A)), (A, lambda thing: ("false", thing))]
        for start, around in rows:
            thing = start
            for _ in range(35):
                thing = around(thing)
            self.assertIs(is_statement(thing), False)

    def test_many_parts(self):
        whole = bushy_statement(12)
        self.assertIs(is_statement(whole), True)
        self.assertIs(is_statement(changed(whole, (2, 1, 2), ["false"])), False)
        self.assertIs(is_statement(changed(whole, (2,) * 12, ("name", "Z"))), False)

    def test_nothing_is_changed_and_nothing_is_kept(self):
        inner = ["false"]
        thing = ("and", A, inner)
        before = copy.deepcopy(thing)
        self.assertIs(is_statement(thing), False)
        self.assertEqual(thing, before)
        inner.append(("name", "a"))
        self.assertIs(is_statement(thing), False)
        self.assertIs(is_statement(("and", A, tuple(inner[:1]))), True)


def plain_parts(statement):
    """The parts in the order of their ends, found by the text alone: each (A o B) ends behind A and B."""
    ends = []

    def walk(part, start):
        text = written(part)
        if len(part) == 3:
            walk(part[1], start + 1)
            walk(part[2], start + len(written(part[1])) + 4)
        ends.append((start + len(text), part))

    walk(statement, 0)
    found = []
    for _, part in sorted(ends, key=lambda row: row[0]):
        if part not in found:
            found.append(part)
    return found


class PartsTest(unittest.TestCase):
    def test_a_name_or_false_alone(self):
        self.assertEqual(parts(A), [A])
        self.assertEqual(parts(("name", "abcdefgh")), [("name", "abcdefgh")])
        self.assertEqual(parts(FALSE), [FALSE])

    def test_first_the_halves_then_the_whole(self):
        for word in WORDS:
            self.assertEqual(parts((word, A, B)), [A, B, (word, A, B)])
            self.assertEqual(parts((word, B, A)), [B, A, (word, B, A)])

    def test_a_part_that_comes_again_is_told_at_its_first_place(self):
        self.assertEqual(parts(("and", A, A)), [A, ("and", A, A)])
        inner = ("or", B, A)
        self.assertEqual(parts(("then", inner, ("and", A, inner))),
                         [B, A, inner, ("and", A, inner), ("then", inner, ("and", A, inner))])
        self.assertEqual(parts(("then", A, ("and", ("or", B, A), FALSE))),
                         [A, B, ("or", B, A), FALSE, ("and", ("or", B, A), FALSE),
                          ("then", A, ("and", ("or", B, A), FALSE))])

    def test_like_halves_under_other_words_are_other_parts(self):
        one, other = ("and", A, B), ("or", A, B)
        self.assertEqual(parts(("then", one, other)), [A, B, one, other, ("then", one, other)])
        swapped = ("and", B, A)
        self.assertEqual(parts(("and", one, swapped)), [A, B, one, swapped, ("and", one, swapped)])

    def test_equal_parts_need_not_be_one_tuple(self):
        one, other = ("and", ("name", "a"), ("false",)), tuple(["and", ("name", "a"), ("false",)])
        self.assertEqual(parts(("or", one, other)), [A, FALSE, one, ("or", one, other)])

    def test_all_small_ones_in_the_order_of_their_texts(self):
        for statement in small_statements(3):
            self.assertEqual(parts(statement), plain_parts(statement))

    def test_larger_ones_in_the_order_of_their_texts(self):
        row = small_statements(2)
        for k in range(len(row) - 7):
            statement = ("then", ("and", ("or", row[k], row[k + 5]), row[k + 3]),
                         ("or", ("and", row[k + 3], row[k]), ("then", row[k + 7], row[k + 5])))
            self.assertEqual(parts(statement), plain_parts(statement))

    def test_30_deep(self):
        for deep in SLIM:
            self.assertEqual(parts(deep(30)), plain_parts(deep(30)))
        self.assertEqual(len(parts(deep_by_first(30))), 31)
        self.assertEqual(len(parts(deep_by_turns(30))), 31)

    def test_30_deep_by_both_halves(self):
        whole = deep_by_both(30)
        wanted = [whole]
        while wanted[0] != A:
            wanted.insert(0, wanted[0][1])
        self.assertEqual(parts(whole), wanted)
        self.assertEqual(len(wanted), 30)
        self.assertEqual(len(parts(deep_by_two(30))), 59)

    def test_many_parts(self):
        whole = bushy_statement(10)
        told = parts(whole)
        self.assertEqual(len(told), 2 ** 11 - 1)
        self.assertEqual(told, plain_parts(whole))

    def test_each_part_is_a_statement(self):
        for statement in small_statements(2) + [deep(30) for deep in SLIM]:
            for part in parts(statement):
                self.assertIs(is_statement(part), True)

    def test_what_is_told_is_a_list_and_the_askers_own(self):
        statement = ("then", ("and", A, B), A)
        wanted = [A, B, ("and", A, B), statement]
        told = parts(statement)
        self.assertIs(type(told), list)
        told.append("more")
        told[0] = None
        del told[1:3]
        self.assertEqual(parts(statement), wanted)
        other = parts(("or", A, A))
        self.assertEqual(other, [A, ("or", A, A)])
        parts(statement).clear()
        self.assertEqual(other, [A, ("or", A, A)])

    def test_the_statement_is_not_changed(self):
        statement = ("then", ("and", A, B), A)
        parts(statement)
        self.assertEqual(statement, ("then", ("and", ("name", "a"), ("name", "b")), ("name", "a")))


class NumberedTest(unittest.TestCase):
    def test_halves_are_told_by_their_numbers(self):
        self.assertEqual(numbered(A), [A])
        self.assertEqual(numbered(FALSE), [FALSE])
        self.assertEqual(numbered(("then", ("and", B, A), ("or", A, FALSE))),
                         [B, A, ("and", 0, 1), FALSE, ("or", 1, 3), ("then", 2, 4)])

    def test_the_halves_are_the_parts_of_these_numbers(self):
        for statement in small_statements(3)[::7] + [deep(30) for deep in SLIM + WIDE] + [bushy_statement(6)]:
            own = parts(statement)
            told = numbered(statement)
            self.assertEqual([part[0] for part in own], [form[0] for form in told])
            for number, (part, form) in enumerate(zip(own, told)):
                if len(part) == 3:
                    self.assertTrue(max(form[1:]) < number)
                    self.assertEqual([own[half] for half in form[1:]], list(part[1:]))
                else:
                    self.assertEqual(form, part)


class InterfaceTest(unittest.TestCase):
    def test_all_are_defined_in_the_file_of_the_statements(self):
        for name in ("is_name", "is_statement", "parts"):
            self.assertEqual(getattr(statements, name).__module__, "showtree.statements")


if __name__ == "__main__":
    unittest.main()
