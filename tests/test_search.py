import copy
import itertools
import random
import unittest

from showtree import search
from showtree.errors import ShowError, TooLarge
from showtree.search import theory
from showtree.statements import parts
from showtree.texts import read, written
from tests.reference import all_trees, plain_holds, proves
from tests.samples import (
    A, B, C, FALSE, FAILING, SHOWN, bushy_statement, count_parts, deep_by_both, deep_by_first, drawn_statement,
    small_statements)

TREES = [tree for many in (1, 2, 3) for tree in all_trees("ab", many)]


def texts_of(text, *given):
    return [written(part) for part in theory(read(text), [read(one) for one in given])]


class TheoryTest(unittest.TestCase):
    def test_no_given_ones(self):
        self.assertEqual(texts_of("a"), [])
        self.assertEqual(texts_of("#"), [])
        self.assertEqual(texts_of("(a > a)"), ["(a > a)"])
        self.assertEqual(texts_of("((a > a) | b)"), ["(a > a)", "((a > a) | b)"])
        self.assertEqual(texts_of("((a & b) > (b > (a > a)))"),
                         ["(a > a)", "(b > (a > a))", "((a & b) > (b > (a > a)))"])
        self.assertEqual(texts_of("(a | (a > #))"), [])

    def test_the_given_ones_are_in_it(self):
        self.assertEqual(texts_of("a", "a"), ["a"])
        self.assertEqual(texts_of("(a & b)", "a"), ["a"])
        self.assertEqual(texts_of("(a > b)", "b"), ["b", "(a > b)"])

    def test_what_each_rule_brings(self):
        self.assertEqual(texts_of("(a & b)", "a", "b"), ["a", "b", "(a & b)"])
        self.assertEqual(texts_of("(a & b)", "(a & b)"), ["a", "b", "(a & b)"])
        self.assertEqual(texts_of("(a | b)", "a"), ["a", "(a | b)"])
        self.assertEqual(texts_of("(a | b)", "b"), ["b", "(a | b)"])
        self.assertEqual(texts_of("(a | b)", "(a | b)"), ["(a | b)"])
        self.assertEqual(texts_of("(a > b)", "a", "(a > b)"), ["a", "b", "(a > b)"])
        self.assertEqual(texts_of("(a > b)", "(a > b)"), ["(a > b)"])
        self.assertEqual(texts_of("(a > b)", "a"), ["a"])
        self.assertEqual(texts_of("((a & b) | (c > #))", "#"), ["a", "b", "(a & b)", "c", "#", "(c > #)",
                                                               "((a & b) | (c > #))"])
        self.assertEqual(texts_of("((a | b) > (b | a))", "(a | b)"), ["(a | b)", "(b | a)", "((a | b) > (b | a))"])
        self.assertEqual(texts_of("((a | b) > c)", "(a | b)"), ["(a | b)"])
        self.assertEqual(texts_of("((a > c) & ((b > c) & (a | b)))", "(a > c)", "(b > c)", "(a | b)"),
                         ["c", "(a > c)", "(b > c)", "(a | b)", "((b > c) & (a | b))",
                          "((a > c) & ((b > c) & (a | b)))"])

    def test_suppose_within_cases_and_cases_within_suppose(self):
        self.assertEqual(texts_of("((a > b) | (c > b))", "((a > b) | (c > b))"), ["((a > b) | (c > b))"])
        self.assertEqual(texts_of("(((a > b) | (c > b)) > ((a & c) > b))", "((a > b) | (c > b))"),
                         ["((a > b) | (c > b))", "((a & c) > b)", "(((a > b) | (c > b)) > ((a & c) > b))"])

    def test_the_order_is_that_of_the_parts(self):
        text = "((b & a) > (c | (a & b)))"
        wanted = ["b", "a", "(b & a)", "(a & b)", "(c | (a & b))", text]
        for given in itertools.permutations(["a", "b"]):
            self.assertEqual(texts_of(text, *given), wanted)
        for given in itertools.permutations(["a", "(b & a)", "(a & b)", text]):
            self.assertEqual(texts_of(text, *given), wanted)

    def test_one_given_twice(self):
        text = "((b & a) > (c | (a & b)))"
        self.assertEqual(texts_of(text, "a", "a"), texts_of(text, "a"))
        self.assertEqual(texts_of(text, "b", "a", "b", "a"), texts_of(text, "a", "b"))
        self.assertEqual(texts_of("a", "a", "a"), ["a"])

    def test_all_given(self):
        for text in SHOWN + FAILING:
            statement = read(text)
            self.assertEqual(theory(statement, parts(statement)), parts(statement))
            self.assertEqual(theory(statement, parts(statement)[::-1]), parts(statement))

    def test_what_is_known_to_be_shown_and_to_fail(self):
        for text in SHOWN:
            self.assertEqual(texts_of(text)[-1:], [text])
        for text in FAILING:
            self.assertNotIn(text, texts_of(text))

    def test_just_where_it_holds_at_each_world(self):
        # Trees of three worlds tell these small statements apart; point 16 has no other trees for them.
        for statement in small_statements(2) + small_statements(3)[::40]:
            own = parts(statement)
            held = [[plain_holds(tree, number, part) for part in own] for tree in TREES for number in range(len(tree))]
            for given in itertools.chain.from_iterable(itertools.combinations(own, many) for many in range(3)):
                numbers = [own.index(one) for one in given]
                fitting = [row for row in held if all(row[k] for k in numbers)]
                wanted = [part for k, part in enumerate(own) if all(row[k] for row in fitting)]
                self.assertEqual(theory(statement, list(given)), wanted, (written(statement), given))

    def test_like_another_calculus(self):
        rng = random.Random(4)
        for _ in range(250):
            statement = drawn_statement(rng, rng.randint(5, 11))
            own = parts(statement)
            given = rng.sample(own, rng.randint(0, min(3, len(own))))
            wanted = [part for part in own if proves(tuple(given), part)]
            self.assertEqual(theory(statement, given), wanted, (written(statement), given))

    def test_a_theory_is_its_own_theory(self):
        rng = random.Random(6)
        for _ in range(100):
            statement = drawn_statement(rng, 16, "abcd")
            given = rng.sample(parts(statement), 2)
            told = theory(statement, given)
            self.assertEqual(theory(statement, told), told)
            self.assertTrue(all(one in told for one in given))

    def test_equal_parts_need_not_be_one_tuple(self):
        self.assertEqual(theory(read("((a & b) > c)"), [tuple(["and", ("name", "a"), ("name", "b")])]),
                         [A, B, ("and", A, B)])

    def test_just_16_parts(self):
        for statement in (deep_by_both(16), deep_by_first(15), ("and", deep_by_first(13), C),
                          ("then", bushy_statement(3), bushy_statement(3))):
            self.assertEqual(count_parts(statement), 16)
            self.assertEqual(theory(statement, parts(statement)[:2])[:2], parts(statement)[:2])
        self.assertEqual(theory(deep_by_both(16), [deep_by_both(16)]), parts(deep_by_both(16)))
        self.assertEqual(theory(deep_by_first(15), [A]), [A])
        self.assertEqual(theory(deep_by_first(15), [B, A]), parts(deep_by_first(15)))

    def test_17_parts_and_more(self):
        for statement in (deep_by_both(17), deep_by_first(16), ("and", deep_by_first(14), C),
                          ("or", FALSE, deep_by_first(14)), ("then", deep_by_both(16), deep_by_both(16)),
                          deep_by_both(30), deep_by_first(30), bushy_statement(4), bushy_statement(10)):
            self.assertGreater(len(parts(statement)), 16)
            for given in ([], [statement], parts(statement)[:3]):
                with self.assertRaises(TooLarge) as caught:
                    theory(statement, given)
                self.assertIs(type(caught.exception), TooLarge)

    def test_too_large_is_a_refusal(self):
        with self.assertRaises(ShowError):
            theory(deep_by_first(16), [])

    def test_many_places_but_few_parts(self):
        statement = ("and", deep_by_both(10), deep_by_both(15))
        self.assertEqual(count_parts(statement), 16)
        self.assertEqual(theory(statement, [A]), parts(statement))

    def test_what_is_told_is_a_list_and_the_askers_own(self):
        statement = read("((b & a) > (c | (a & b)))")
        given = [A, B]
        wanted = copy.deepcopy(theory(statement, given))
        told = theory(statement, given)
        self.assertIs(type(told), list)
        self.assertEqual(given, [A, B])
        self.assertIsNot(told, given)
        given.clear()
        self.assertEqual(told, wanted)
        told.clear()
        told.append(None)
        self.assertEqual(theory(statement, [A, B]), wanted)
        self.assertEqual(theory(read("(a | b)"), [B]), [B, ("or", A, B)])
        self.assertEqual(theory(statement, [A, B]), wanted)

    def test_the_given_are_not_what_is_told(self):
        given = [A]
        told = theory(A, given)
        told.append(B)
        self.assertEqual(given, [A])


class InterfaceTest(unittest.TestCase):
    def test_it_is_defined_in_the_file_of_the_search(self):
        self.assertEqual(search.theory.__module__, "showtree.search")


if __name__ == "__main__":
    unittest.main()
