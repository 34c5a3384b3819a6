"""What the document promises over the whole program: point 1, and the interface."""

import copy
import importlib
import inspect
import os
import pathlib
import random
import subprocess
import sys
import unittest

from showtree.errors import NoWorld, TooLarge, Unread
from showtree.search import theory
from showtree.showings import faults, follows, shows
from showtree.statements import is_statement, parts
from showtree.telling import is_shown, told
from showtree.texts import read, written
from showtree.worlds import above, holds, is_tree
from tests.reference import row
from tests.samples import A, B, FAILING, LARGE, SHOWN, deep_by_first, drawn_statement

INTERFACE = {
    "errors": {"ShowError": None, "Unread": None, "TooLarge": None, "NoWorld": None},
    "statements": {"is_name": ["thing"], "is_statement": ["thing"], "parts": ["statement"]},
    "texts": {"written": ["statement"], "read": ["text"]},
    "worlds": {"is_tree": ["thing"], "above": ["tree", "number"], "holds": ["tree", "number", "statement"]},
    "showings": {"follows": ["rows", "number"], "faults": ["rows"], "shows": ["rows", "statement"]},
    "search": {"theory": ["statement", "given"]},
    "telling": {"told": ["statement"], "is_shown": ["statement"]},
}

ROOT = pathlib.Path(__file__).resolve().parent.parent


def answers(statement):
    """All that the program says of a statement."""
    word, thing = told(statement)
    found = [is_statement(statement), written(statement), parts(statement), is_shown(statement), word, thing]
    found += [theory(statement, []), theory(statement, parts(statement)[:2])]
    if word == "shown":
        return found + [faults(thing), [follows(thing, k) for k in range(len(thing))], shows(thing, statement)]
    return found + [is_tree(thing), above(thing, 0), [holds(thing, k, statement) for k in range(len(thing))]]


def spoil(thing):
    """Change a list, and all lists in it, as an asker may."""
    if isinstance(thing, (list, tuple)):
        for one in thing:
            spoil(one)
    if isinstance(thing, list):
        thing.reverse()
        thing.append("spoiled")
        thing[0] = None
        del thing[1:3]


class NothingIsKeptTest(unittest.TestCase):
    def test_the_same_asked_twice_with_others_between(self):
        rows = [read(text) for text in SHOWN + FAILING + LARGE]
        first = [copy.deepcopy(answers(statement)) for statement in rows]
        self.assertEqual([answers(statement) for statement in rows[::-1]], first[::-1])
        random.Random(1).shuffle(rows)
        for statement in rows:
            self.assertEqual(answers(statement), first[(SHOWN + FAILING + LARGE).index(written(statement))])

    def test_what_was_told_is_changed_by_the_asker(self):
        for text in SHOWN + FAILING + LARGE:
            statement = read(text)
            wanted = copy.deepcopy(answers(statement))
            spoil(answers(statement))
            self.assertEqual(answers(statement), wanted)
            spoil(told(read("(a > (b > a))")))
            self.assertEqual(answers(read(text)), wanted)

    def test_what_was_told_is_not_changed_later(self):
        kept = [(answers(read(text)), copy.deepcopy(answers(read(text)))) for text in SHOWN + FAILING]
        for text in FAILING + SHOWN:
            spoil(answers(read(text)))
        for refused in (lambda: read("(a"), lambda: told(deep_by_first(16)), lambda: above(((None, ()),), 1)):
            with self.assertRaises((Unread, TooLarge, NoWorld)):
                refused()
        for one, other in kept:
            self.assertEqual(one, other)

    def test_after_a_refusal(self):
        for statement in (read("(a > a)"), read("(a | b)")):
            before = answers(statement)
            for wrong in (deep_by_first(16), deep_by_first(30)):
                for ask in (told, is_shown, lambda one: theory(one, [])):
                    self.assertRaises(TooLarge, ask, wrong)
            self.assertEqual(answers(statement), before)


class NothingIsChangedTest(unittest.TestCase):
    def test_what_is_handed_in(self):
        for text in SHOWN + FAILING:
            statement = read(text)
            given = parts(statement)[::2]
            word, thing = told(statement)
            before = copy.deepcopy((statement, given, thing))
            theory(statement, given)
            answers(statement)
            if word == "shown":
                faults(thing)
                shows(thing, statement)
            else:
                above(thing, 0)
                holds(thing, 0, statement)
            self.assertEqual((statement, given, thing), before)

    def test_what_is_handed_in_may_be_changed_later(self):
        statement = read("((a & b) > c)")
        given = [A, B]
        known = theory(statement, given)
        rows = [row("", "a", "given"), row("a", "a", "given")]
        wrong = faults(rows)
        given.append(statement)
        rows.reverse()
        self.assertEqual(known, [A, B, ("and", A, B)])
        self.assertEqual(wrong, [0])


class OneOfTwoTest(unittest.TestCase):
    def test_never_both_always_one(self):
        rng = random.Random(3)
        rows = [read(text) for text in SHOWN + FAILING] + [drawn_statement(rng, 12) for _ in range(100)]
        for statement in rows:
            word, thing = told(statement)
            self.assertIn(word, ("shown", "worlds"))
            is_showing = word == "shown" and shows(thing, statement)
            is_failing = word == "worlds" and is_tree(thing) and not holds(thing, 0, statement)
            self.assertEqual([is_showing, is_failing].count(True), 1, written(statement))

    def test_what_is_shown_fails_at_no_world_of_a_told_tree(self):
        trees = [told(read(text))[1] for text in FAILING + LARGE[:2]]
        for text in SHOWN:
            for tree in trees:
                self.assertTrue(all(holds(tree, number, read(text)) for number in range(len(tree))), text)

    def test_nothing_hangs_on_the_order_of_sets(self):
        code = ("from tests.test_program import answers\nfrom tests.samples import SHOWN, FAILING, LARGE\n"
                "from showtree.texts import read\nprint([answers(read(text)) for text in SHOWN + FAILING + LARGE])\n")
        told_by_seed = []
        for seed in ("0", "1", "77"):
            done = subprocess.run([sys.executable, "-c", code], cwd=ROOT, capture_output=True, text=True, check=True,
                                  env={**os.environ, "PYTHONHASHSEED": seed, "PYTHONPATH": str(ROOT)})
            told_by_seed.append(done.stdout)
        self.assertGreater(len(told_by_seed[0]), 1000)
        self.assertEqual(told_by_seed[0], told_by_seed[1])
        self.assertEqual(told_by_seed[0], told_by_seed[2])


class InterfaceTest(unittest.TestCase):
    def test_names_files_and_arguments(self):
        for file, names in INTERFACE.items():
            module = importlib.import_module("showtree." + file)
            for name, wanted in names.items():
                thing = getattr(module, name)
                self.assertEqual(thing.__module__, "showtree." + file)
                if wanted is not None:
                    given = inspect.signature(thing).parameters.values()
                    self.assertEqual([one.name for one in given], wanted)
                    self.assertTrue(all(one.default is one.empty for one in given))
                    self.assertEqual({one.kind for one in given}, {inspect.Parameter.POSITIONAL_OR_KEYWORD})

    def test_kinds_of_values(self):
        statement = read("((a & b) > a)")
        tree, rows = ((None, ()), (0, ("a",))), [row("a", "a", "given")]
        kinds = [(is_statement(statement), bool), (parts(statement), list), (written(statement), str),
                 (is_tree(tree), bool), (above(tree, 0), list), (holds(tree, 0, statement), bool),
                 (holds(tree, 1, A), bool), (holds(tree, 1, ("or", B, A)), bool), (holds(tree, 0, ("and", A, B)), bool),
                 (follows(rows, 0), bool), (faults(rows), list), (shows(rows, A), bool), (theory(statement, [A]), list),
                 (told(statement), tuple), (told(A), tuple), (told(statement)[1], list), (told(A)[1], tuple),
                 (is_shown(statement), bool), (is_shown(A), bool)]
        for number, (thing, kind) in enumerate(kinds):
            self.assertIs(type(thing), kind, number)


if __name__ == "__main__":
    unittest.main()
