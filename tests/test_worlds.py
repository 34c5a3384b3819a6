import copy
import random
import unittest

from showtree import worlds
from showtree.errors import NoWorld, ShowError
from showtree.statements import parts
from showtree.texts import read
from showtree.worlds import above, holds, is_tree
from tests.reference import all_trees, plain_above, plain_holds, plain_is_tree
from tests.samples import A, B, C, FALSE, WORDS, WRONG_THINGS, bushy_statement, deep_by_both, small_statements

ROOT = (None, ())
# 1 and 4 stand on 0, 2 and 5 on 1, 3 on 2, 6 on 4.
BRANCHES = ((None, ()), (0, ("a",)), (1, ("a", "b")), (2, ("a", "b", "c")), (0, ("b",)), (1, ("a", "c")), (4, ("b",)))
SMALL_TREES = [tree for many in (1, 2, 3) for tree in all_trees("ab", many)]


def chain(many, names=("a",)):
    """Worlds one above the other; all but the root have the names."""
    return ((None, ()),) + tuple((number, names) for number in range(many - 1))


class IsTreeTest(unittest.TestCase):
    def assert_no_tree(self, thing):
        self.assertIs(is_tree(thing), False, thing)

    def test_one_world(self):
        for names in ((), ("a",), ("a", "b"), ("abcdefgh",), ("a", "aa", "ab", "b", "ba", "z")):
            self.assertIs(is_tree(((None, names),)), True, names)

    def test_trees(self):
        self.assertIs(is_tree(BRANCHES), True)
        self.assertIs(is_tree(((None, ("b",)), (0, ("b",)), (0, ("a", "b")), (0, ("b", "c")))), True)
        for tree in SMALL_TREES:
            self.assertIs(is_tree(tree), True, tree)

    def test_121_worlds_and_more(self):
        for many in (121, 122, 3000):
            self.assertIs(is_tree(chain(many)), True)
            self.assertIs(is_tree((ROOT,) + ((0, ("a",)),) * (many - 1)), True)
            self.assertIs(is_tree(chain(many - 1) + ((many - 2, ()),)), False)

    def test_no_world(self):
        self.assert_no_tree(())

    def test_what_is_no_tuple(self):
        for thing in ([], [ROOT], list(BRANCHES), None, True, False, 0, 1, 1.5, "", "a", "tree", {}, [[]], [None, ()]):
            self.assert_no_tree(thing)

    def test_a_world_alone_is_no_tree(self):
        self.assert_no_tree(ROOT)
        self.assert_no_tree((None, ("a",)))
        self.assert_no_tree((None, (None, ())))

    def test_a_wrong_thing_in_the_place_of_a_world(self):
        some = [ROOT[:1], ROOT + ((),), list(ROOT), (0,), (0, (), ()), [0, ()], ((), 0), ((), None)]
        for thing in WRONG_THINGS + some:
            for at in range(len(BRANCHES)):
                self.assert_no_tree(BRANCHES[:at] + (thing,) + BRANCHES[at + 1:])
        self.assert_no_tree(((),))
        self.assert_no_tree((ROOT, ()))

    def test_the_parent_of_the_root(self):
        for parent in (0, -1, 1, False, True, 0.0, "", (), [], "None", (None,)):
            self.assert_no_tree(((parent, ()),))
            self.assert_no_tree(((parent, ()), (0, ())))

    def test_the_parent_of_another_world(self):
        large = 10 ** 30
        for parent in (None, -1, -2, 1, 2, 3, True, False, 0.0, 1.0, 0.5, "0", "", (), (0,), [], [0], large, -large):
            self.assert_no_tree((ROOT, (parent, ())))
        for parent in (None, -1, -3, 2, 3, True, False, 1.0, "1", (1,)):
            self.assert_no_tree((ROOT, (0, ()), (parent, ())))
            self.assert_no_tree((ROOT, (0, ()), (parent, ()), (0, ())))

    def test_a_second_root(self):
        self.assert_no_tree((ROOT, ROOT))
        self.assert_no_tree((ROOT, (0, ()), (None, ())))

    def test_names_that_are_no_tuple(self):
        for names in ([], ["a"], "", "a", "ab", None, 0, True, {}, {"a": 1}):
            self.assert_no_tree(((None, names),))
            self.assert_no_tree((ROOT, (0, names)))

    def test_names_that_are_none(self):
        for wrong in ("", "A", "abcdefghi", "a b", "a1", "#", "\u00e4", "a\n", None, 1, True, (), ("a",), ["a"], A):
            for names in ((wrong,), ("a", wrong), (wrong, "z"), ("a", wrong, "z")):
                self.assert_no_tree(((None, names),))
                self.assert_no_tree((ROOT, (0, names)))
                self.assert_no_tree(((None, names), (0, names)))

    def test_names_that_do_not_rise(self):
        for names in (("b", "a"), ("a", "c", "b"), ("b", "a", "c"), ("aa", "a"), ("b", "ab"), ("c", "b", "a")):
            self.assert_no_tree(((None, names),))
            self.assert_no_tree((ROOT, (0, names)))

    def test_a_name_twice(self):
        for names in (("a", "a"), ("a", "b", "b"), ("a", "a", "b"), ("a", "b", "a")):
            self.assert_no_tree(((None, names),))
            self.assert_no_tree((ROOT, (0, names)))

    def test_names_of_the_parent_that_are_missing(self):
        self.assert_no_tree(((None, ("a",)), (0, ())))
        self.assert_no_tree(((None, ("a",)), (0, ("b",))))
        self.assert_no_tree(((None, ("a", "b")), (0, ("a",))))
        self.assert_no_tree(((None, ("a", "b")), (0, ("b", "c"))))
        self.assert_no_tree((ROOT, (0, ("a",)), (1, ("b",))))
        self.assert_no_tree((ROOT, (0, ("a",)), (1, ("a",)), (2, ())))

    def test_names_of_another_world_may_be_missing(self):
        self.assertIs(is_tree((ROOT, (0, ("a",)), (0, ()))), True)
        self.assertIs(is_tree((ROOT, (0, ("a",)), (0, ("b",)), (2, ("b", "c")))), True)

    def test_each_way_to_set_up_three_worlds(self):
        parents = (None, -1, 0, 1, 2)
        sets = ((), ("a",), ("b",), ("a", "b"), ("b", "a"), ("a", "a"))
        for one in [(p, s) for p in (None, 0) for s in sets]:
            for two in [(p, s) for p in parents for s in sets]:
                for tree in [(one, two)] + [(one, two, (p, s)) for p in parents for s in sets]:
                    self.assertIs(is_tree(tree), plain_is_tree(tree), tree)

    def test_things_36_deep(self):
        tuples, lists, pairs, roots = (), [], (), ROOT
        for _ in range(34):
            tuples, lists, pairs, roots = (tuples,), [lists], (None, pairs), (None, (roots,))
        for thing in (tuples, lists, pairs, (pairs,), roots, (roots,), ((None, tuples),), (ROOT, (tuples, ()))):
            self.assert_no_tree(thing)

    def test_nothing_is_changed_and_nothing_is_kept(self):
        inner = []
        thing = ((None, ()), (0, inner))
        before = copy.deepcopy(thing)
        self.assert_no_tree(thing)
        self.assertEqual(thing, before)
        self.assertIs(is_tree(((None, ()), (0, tuple(inner)))), True)
        inner.append("a")
        self.assert_no_tree(thing)


class AboveTest(unittest.TestCase):
    def test_one_world(self):
        self.assertEqual(above((ROOT,), 0), [0])

    def test_branches(self):
        wanted = [[0, 1, 2, 3, 4, 5, 6], [1, 2, 3, 5], [2, 3], [3], [4, 6], [5], [6]]
        for number, row in enumerate(wanted):
            self.assertEqual(above(BRANCHES, number), row)

    def test_rising_where_branches_take_turns(self):
        tree = (ROOT, (0, ()), (0, ()), (1, ()), (2, ()), (3, ()), (2, ()), (1, ()), (4, ()))
        self.assertEqual(above(tree, 1), [1, 3, 5, 7])
        self.assertEqual(above(tree, 2), [2, 4, 6, 8])
        self.assertEqual(above(tree, 0), list(range(9)))

    def test_large_trees(self):
        for many in (121, 130, 3000):
            self.assertEqual(above(chain(many), 0), list(range(many)))
            self.assertEqual(above(chain(many), many - 2), [many - 2, many - 1])
            fan = (ROOT,) + ((0, ("a",)),) * (many - 1)
            self.assertEqual(above(fan, 0), list(range(many)))
            self.assertEqual(above(fan, many - 1), [many - 1])

    def test_like_the_definition(self):
        for tree in SMALL_TREES + all_trees("a", 5):
            for number in range(len(tree)):
                self.assertEqual(above(tree, number), sorted(plain_above(tree, number)))

    def test_no_world(self):
        for tree in ((ROOT,), BRANCHES, chain(121)):
            many = len(tree)
            for number in (-1, -2, -many, -many - 1, many, many + 1, 10 ** 30, -10 ** 30):
                with self.assertRaises(NoWorld) as caught:
                    above(tree, number)
                self.assertIs(type(caught.exception), NoWorld)

    def test_what_is_told_is_a_list_and_the_askers_own(self):
        told = above(BRANCHES, 1)
        self.assertIs(type(told), list)
        told[0] = None
        told.append(9)
        other = above(BRANCHES, 4)
        self.assertEqual(above(BRANCHES, 1), [1, 2, 3, 5])
        above(BRANCHES, 1).clear()
        self.assertEqual(other, [4, 6])
        self.assertEqual(told, [None, 2, 3, 5, 9])


class HoldsTest(unittest.TestCase):
    def worlds_of(self, tree, text):
        return [number for number in range(len(tree)) if holds(tree, number, read(text))]

    def test_names(self):
        self.assertEqual(self.worlds_of(BRANCHES, "a"), [1, 2, 3, 5])
        self.assertEqual(self.worlds_of(BRANCHES, "b"), [2, 3, 4, 6])
        self.assertEqual(self.worlds_of(BRANCHES, "c"), [3, 5])
        self.assertEqual(self.worlds_of(BRANCHES, "d"), [])

    def test_a_name_is_not_the_beginning_of_another(self):
        tree = ((None, ("ab",)), (0, ("a", "ab", "abc")))
        self.assertEqual(self.worlds_of(tree, "a"), [1])
        self.assertEqual(self.worlds_of(tree, "ab"), [0, 1])
        self.assertEqual(self.worlds_of(tree, "b"), [])

    def test_false(self):
        self.assertEqual(self.worlds_of(BRANCHES, "#"), [])
        self.assertEqual(self.worlds_of(((None, ("false",)),), "#"), [])
        self.assertEqual(self.worlds_of(((None, ("false",)),), "false"), [0])

    def test_and_and_or(self):
        self.assertEqual(self.worlds_of(BRANCHES, "(a & b)"), [2, 3])
        self.assertEqual(self.worlds_of(BRANCHES, "(b & a)"), [2, 3])
        self.assertEqual(self.worlds_of(BRANCHES, "(a | b)"), [1, 2, 3, 4, 5, 6])
        self.assertEqual(self.worlds_of(BRANCHES, "(b | c)"), [2, 3, 4, 5, 6])
        self.assertEqual(self.worlds_of(BRANCHES, "(a & #)"), [])
        self.assertEqual(self.worlds_of(BRANCHES, "(a | #)"), [1, 2, 3, 5])

    def test_then_looks_at_all_above(self):
        self.assertEqual(self.worlds_of(BRANCHES, "(a > b)"), [2, 3, 4, 6])
        self.assertEqual(self.worlds_of(BRANCHES, "(b > a)"), [1, 2, 3, 5])
        self.assertEqual(self.worlds_of(BRANCHES, "(c > a)"), [0, 1, 2, 3, 4, 5, 6])
        self.assertEqual(self.worlds_of(BRANCHES, "(c > b)"), [2, 3, 4, 6])
        self.assertEqual(self.worlds_of(BRANCHES, "(b > c)"), [3, 5])
        self.assertEqual(self.worlds_of(BRANCHES, "(a > a)"), [0, 1, 2, 3, 4, 5, 6])
        self.assertEqual(self.worlds_of(BRANCHES, "(a > #)"), [4, 6])
        self.assertEqual(self.worlds_of(BRANCHES, "(d > #)"), [0, 1, 2, 3, 4, 5, 6])
        self.assertEqual(self.worlds_of(BRANCHES, "((a > #) > #)"), [1, 2, 3, 5])

    def test_then_does_not_look_below_or_beside(self):
        tree = ((None, ("a",)), (0, ("a", "b")), (0, ("a",)), (1, ("a", "b", "c")))
        self.assertEqual(self.worlds_of(tree, "(a > b)"), [1, 3])
        self.assertEqual(self.worlds_of(tree, "((a > b) > c)"), [2, 3])
        self.assertEqual(self.worlds_of(tree, "((a > b) > b)"), [0, 1, 2, 3])
        self.assertEqual(self.worlds_of(tree, "((b > c) > c)"), [1, 3])

    def test_what_need_not_hold(self):
        two = ((None, ()), (0, ("a",)))
        self.assertEqual(self.worlds_of(two, "(a | (a > #))"), [1])
        self.assertEqual(self.worlds_of(two, "(((a > #) > #) > a)"), [1])
        self.assertEqual(self.worlds_of(two, "((a | (a > #)) > #)"), [])
        self.assertEqual(self.worlds_of(((None, ()), (0, ("a",)), (0, ("b",))), "((a > b) | (b > a))"), [1, 2])

    def test_like_the_definition(self):
        trees = SMALL_TREES + [BRANCHES]
        for statement in small_statements(2) + small_statements(3)[::11]:
            for tree in trees[::3]:
                for number in range(len(tree)):
                    self.assertIs(holds(tree, number, statement), plain_holds(tree, number, statement),
                                  (tree, number, statement))

    def test_larger_ones_like_the_definition(self):
        rng = random.Random(9)
        for _ in range(300):
            tree = random_tree(rng, rng.randint(1, 9))
            statement = random_statement(rng, 5)
            for number in range(len(tree)):
                self.assertIs(holds(tree, number, statement), plain_holds(tree, number, statement))

    def test_what_holds_holds_at_all_above(self):
        rng = random.Random(5)
        for _ in range(200):
            tree = random_tree(rng, 7)
            statement = random_statement(rng, 4)
            for number in range(7):
                if holds(tree, number, statement):
                    self.assertTrue(all(holds(tree, k, statement) for k in above(tree, number)))

    def test_a_part_at_several_places(self):
        inner = ("then", A, B)
        statement = ("and", ("or", inner, C), ("then", inner, inner))
        for tree in all_trees("ab", 3):
            for number in range(3):
                self.assertIs(holds(tree, number, statement), plain_holds(tree, number, inner))

    def test_large_ones(self):
        tree = chain(121)
        deep = A
        for _ in range(29):
            deep = ("then", deep, B)
        for number in range(121):
            self.assertIs(holds(tree, number, deep_by_both(30)), number > 0)
            self.assertIs(holds(tree, number, deep), False)
            self.assertIs(holds(tree, number, ("then", deep, deep)), True)
        self.assertIs(holds(tree, 0, bushy_statement(10)), False)

    def test_more_than_30_deep_and_more_than_121_worlds(self):
        self.assertIs(holds(chain(400), 0, deep_by_both(36, "or")), False)
        self.assertIs(holds(chain(400), 399, deep_by_both(36, "or")), True)

    def test_no_world(self):
        for tree in ((ROOT,), BRANCHES, chain(121)):
            many = len(tree)
            for number in (-1, -2, -many, -many - 1, many, many + 1, 10 ** 30, -10 ** 30):
                for statement in (A, FALSE, ("then", A, A)):
                    with self.assertRaises(NoWorld) as caught:
                        holds(tree, number, statement)
                    self.assertIs(type(caught.exception), NoWorld)

    def test_no_world_is_a_refusal(self):
        with self.assertRaises(ShowError):
            holds((ROOT,), 1, A)

    def test_nothing_is_kept_between_calls(self):
        one, other = ((None, ()), (0, ("a",))), ((None, ("a",)), (0, ("a", "b")))
        for _ in range(2):
            self.assertIs(holds(one, 0, A), False)
            self.assertIs(holds(other, 0, A), True)
            self.assertIs(holds(other, 1, B), True)
            self.assertIs(holds(one, 1, ("then", A, B)), False)
            self.assertEqual(above(one, 1), [1])


def random_tree(rng, many):
    tree = []
    for number in range(many):
        parent = rng.randrange(number) if number else None
        names = {name for name in "abc" if rng.random() < 0.2} | set(tree[parent][1] if number else ())
        tree.append((parent, tuple(sorted(names))))
    return tuple(tree)


def random_statement(rng, deep):
    if deep == 1 or rng.random() < 0.1:
        return rng.choice((A, B, C, FALSE))
    return (rng.choice(WORDS + ("then",)), random_statement(rng, deep - 1), random_statement(rng, deep - 1))


class InterfaceTest(unittest.TestCase):
    def test_all_are_defined_in_the_file_of_the_worlds(self):
        for name in ("is_tree", "above", "holds"):
            self.assertEqual(getattr(worlds, name).__module__, "showtree.worlds")

    def test_random_statements_have_all_kinds_of_parts(self):
        rng = random.Random(9)
        kinds = {part[0] for _ in range(50) for part in parts(random_statement(rng, 5))}
        self.assertEqual(kinds, {"name", "false", "and", "or", "then"})


if __name__ == "__main__":
    unittest.main()
