import random
import unittest

from showtree import telling
from showtree.errors import ShowError, TooLarge
from showtree.showings import shows
from showtree.statements import parts
from showtree.telling import is_shown, told
from showtree.texts import read, written
from showtree.worlds import holds, is_tree
from tests.reference import plain_follows, plain_holds, plain_is_tree, proves
from tests.samples import (
    A, B, C, FALSE, FAILING, LARGE, SHOWN, bushy_statement, count_parts, deep_by_both, deep_by_first, drawn_statement,
    small_statements)

# Of larger trees nothing is promised (8).
MOST_WORLDS = 121


class ToldTest(unittest.TestCase):
    def check(self, statement):
        """Hold what is told against the document, and tell which of the two it is."""
        pair = told(statement)
        self.assertIs(type(pair), tuple)
        word, thing = pair
        if word == "shown":
            self.check_rows(statement, thing)
        else:
            self.assertEqual(word, "worlds")
            self.check_tree(statement, thing)
        self.assertIs(is_shown(statement), word == "shown")
        return word

    def check_rows(self, statement, rows):
        self.assertIs(type(rows), list)
        self.assertIs(shows(rows, statement), True, written(statement))
        self.assertTrue(all(plain_follows(rows, number) for number in range(len(rows))))
        own = parts(statement)
        for one in rows:
            self.assertEqual([type(place) for place in one], [tuple, tuple, str, tuple])
            given, shown, _, ups = one
            self.assertTrue(all(part in own for part in (shown,) + given))
            self.assertTrue(all(type(up) is int for up in ups))
        self.assertEqual(rows[-1][:2], ((), statement))

    def check_tree(self, statement, tree):
        self.assertIs(is_tree(tree), True)
        self.assertTrue(plain_is_tree(tree))
        self.assertIs(holds(tree, 0, statement), False, written(statement))
        self.assertLessEqual(len(tree), MOST_WORLDS)
        own = [part[1] for part in parts(statement) if part[0] == "name"]
        self.assertTrue(all(name in own for _, names in tree for name in names))

    def test_a_name_and_false(self):
        self.assertEqual(self.check(A), "worlds")
        self.assertEqual(self.check(("name", "abcdefgh")), "worlds")
        self.assertEqual(self.check(FALSE), "worlds")

    def test_what_is_known_to_be_shown(self):
        for text in SHOWN:
            self.assertEqual(self.check(read(text)), "shown", text)

    def test_what_is_known_to_fail(self):
        for text in FAILING:
            self.assertEqual(self.check(read(text)), "worlds", text)

    def test_statements_that_need_a_tree_of_some_size(self):
        # Each further level needs one more world above the other.
        text = "(a | (a > #))"
        for many, name in ((2, "b"), (3, "c"), (4, "d")):
            tree = told(read(text))[1]
            self.assertGreaterEqual(len(tree), many)
            text = f"({name} | ({name} > {text}))"
        self.assertEqual(self.check(read(text)), "worlds")
        self.assertGreaterEqual(len(told(read("((a > b) | (b > a))"))[1]), 3)

    def test_all_small_ones(self):
        met = {"shown": 0, "worlds": 0}
        for statement in small_statements(3, (A, B)) + small_statements(3)[::5]:
            word = self.check(statement)
            met[word] += 1
            self.assertEqual(word == "shown", proves((), statement), written(statement))
        self.assertTrue(met["shown"] > 100 and met["worlds"] > 100)

    def test_drawn_ones_up_to_16_parts(self):
        rng = random.Random(8)
        met = {"shown": 0, "worlds": 0}
        for _ in range(400):
            met[self.check(drawn_statement(rng, rng.randint(6, 16), "abcde"[:rng.randint(1, 5)]))] += 1
        self.assertTrue(met["shown"] > 50 and met["worlds"] > 50)

    def test_large_ones(self):
        words = []
        for text in LARGE:
            self.assertLessEqual(count_parts(read(text)), 16)
            words.append(self.check(read(text)))
        self.assertEqual(words, ["worlds", "worlds", "shown", "shown", "shown", "worlds"])
        # Far below the most worlds, as no search can go through all statements of 16 parts.
        self.assertLess(max(len(told(read(text))[1]) for text in LARGE if not is_shown(read(text))), 30)

    def test_just_16_parts(self):
        whole = bushy_statement(3)
        rows = [(deep_by_both(16), "worlds"), (deep_by_both(16, "then"), "shown"), (deep_by_first(15), "worlds"),
                (deep_by_first(15, "then"), "worlds"), (("then", whole, whole), "shown"),
                (("or", whole, whole), "worlds"), (("then", deep_by_both(15, "or"), A), "shown")]
        for statement, word in rows:
            self.assertEqual(count_parts(statement), 16)
            self.assertEqual(self.check(statement), word)

    def test_17_parts_and_more(self):
        whole = bushy_statement(3)
        for statement in (deep_by_both(17), deep_by_both(17, "then"), deep_by_first(16),
                          ("then", whole, ("or", whole, whole)), ("then", deep_by_first(15), deep_by_first(15)),
                          ("or", deep_by_first(14), C), deep_by_both(30, "then"), deep_by_first(30), bushy_statement(4),
                          bushy_statement(10)):
            self.assertGreater(len(parts(statement)), 16)
            for ask in (told, is_shown):
                with self.assertRaises(TooLarge) as caught:
                    ask(statement)
                self.assertIs(type(caught.exception), TooLarge)

    def test_too_large_is_a_refusal(self):
        for ask in (told, is_shown):
            with self.assertRaises(ShowError):
                ask(deep_by_first(16))

    def test_parts_are_counted_once(self):
        self.assertEqual(self.check(("then", deep_by_first(14), deep_by_first(14))), "shown")
        self.assertEqual(self.check(("or", deep_by_first(14), deep_by_first(13))), "worlds")

    def test_each_rule_comes_to_use(self):
        rules = {one[2] for text in SHOWN for one in told(read(text))[1]}
        self.assertEqual(rules, {"given", "both", "left", "right", "one", "other", "cases", "suppose", "onward", "any"})

    def test_all_rows_are_needed(self):
        for text in SHOWN + LARGE[2:5]:
            rows = told(read(text))[1]
            used = {up for one in rows for up in one[3]} | {len(rows) - 1}
            self.assertEqual(used, set(range(len(rows))), text)

    def test_the_root_tells_why_it_fails(self):
        for text in FAILING:
            tree = told(read(text))[1]
            self.assertFalse(plain_holds(tree, 0, read(text)))


class IsShownTest(unittest.TestCase):
    def test_shown_and_failing(self):
        for text in SHOWN:
            self.assertIs(is_shown(read(text)), True, text)
        for text in FAILING:
            self.assertIs(is_shown(read(text)), False, text)

    def test_not_taken_for_granted(self):
        self.assertIs(is_shown(read("(a | (a > #))")), False)
        self.assertIs(is_shown(read("((a | (a > #)) > #)")), False)
        self.assertIs(is_shown(read("(((a | (a > #)) > #) > #)")), True)

    def test_like_another_calculus(self):
        for statement in small_statements(3):
            self.assertIs(is_shown(statement), proves((), statement), written(statement))


class InterfaceTest(unittest.TestCase):
    def test_both_are_defined_in_the_file_of_the_telling(self):
        for name in ("told", "is_shown"):
            self.assertEqual(getattr(telling, name).__module__, "showtree.telling")


if __name__ == "__main__":
    unittest.main()
