import copy
import random
import unittest

from showtree import showings
from showtree.showings import faults, follows, shows
from showtree.texts import read
from tests.reference import all_trees, plain_follows, plain_holds, row
from tests.samples import A, B, C, FALSE, deep_by_first

RULES = ("given", "both", "left", "right", "one", "other", "cases", "suppose", "onward", "any")

# Rows ahead, of which only given and statement matter, and a row that follows, with just the given that it needs.
RIGHT = [
    ([], row("a", "a", "given")),
    ([], row("(a > #)", "(a > #)", "given")),
    ([("p", "a"), ("q", "b")], row("p, q", "(a & b)", "both", 0, 1)),
    ([("q", "b"), ("p", "a")], row("p, q", "(a & b)", "both", 1, 0)),
    ([("p", "a")], row("p", "(a & a)", "both", 0, 0)),
    ([("p, q", "(a & b)")], row("p, q", "a", "left", 0)),
    ([("p", "((a | c) & b)")], row("p", "(a | c)", "left", 0)),
    ([("p, q", "(a & b)")], row("p, q", "b", "right", 0)),
    ([("p", "(b & (a > c))")], row("p", "(a > c)", "right", 0)),
    ([("p", "a")], row("p", "(a | b)", "one", 0)),
    ([("p", "b")], row("p", "(a | b)", "other", 0)),
    ([("p", "(a | b)"), ("q, a", "c"), ("b, r", "c")], row("p, q, r", "c", "cases", 0, 1, 2)),
    ([("a, q", "c"), ("r, b", "c"), ("p", "(a | b)")], row("p, q, r", "c", "cases", 2, 0, 1)),
    ([("p", "(a | b)"), ("q", "c"), ("r", "c")], row("p, q, r", "c", "cases", 0, 1, 2)),
    ([("p", "(a | a)"), ("a", "a")], row("p", "a", "cases", 0, 1, 1)),
    ([("p, a", "b")], row("p", "(a > b)", "suppose", 0)),
    ([("a, p, a", "b")], row("p", "(a > b)", "suppose", 0)),
    ([("p", "b")], row("p", "(a > b)", "suppose", 0)),
    ([("a", "a")], row("", "(a > a)", "suppose", 0)),
    ([("p", "(a > b)"), ("q", "a")], row("p, q", "b", "onward", 0, 1)),
    ([("q", "a"), ("p", "(a > b)")], row("p, q", "b", "onward", 1, 0)),
    ([("p", "((a > b) > (b | c))"), ("q", "(a > b)")], row("p, q", "(b | c)", "onward", 0, 1)),
    ([("p, q", "#")], row("p, q", "a", "any", 0)),
    ([("p", "#")], row("p", "((a & b) > #)", "any", 0)),
    ([("p", "#")], row("p", "#", "any", 0)),
]

# Rows ahead, and rows none of which follows from them.
BOTH = [("", "a"), ("", "b")]
ONWARD = [("", "(a > b)"), ("", "a"), ("", "b"), ("", "c"), ("", "(a & b)"), ("", "(a | b)")]
CASES = [("", "(a | b)"), ("a", "c"), ("b", "c"), ("a", "d"), ("b", "d"), ("a, b", "c"), ("c", "c"), ("(a | b)", "c"),
         ("", "(a & b)"), ("", "(a > b)"), ("", "#"), ("a", "(a | b)"), ("b", "(a | b)")]
WRONG_ROWS = [
    ([], [row("", "a", "given"), row("b", "a", "given"), row("(a & b)", "a", "given")]),
    ([("", "a"), ("a", "a")], [row("", "a", "given", 0), row("a", "a", "given", 1)]),
    (BOTH, [row("", "(a & b)", "both", 1, 0), row("", "(a & b)", "both", 0, 0), row("", "(a & c)", "both", 0, 1),
            row("", "(c & b)", "both", 0, 1), row("", "(a | b)", "both", 0, 1), row("", "(a > b)", "both", 0, 1),
            row("", "a", "both", 0, 1), row("", "#", "both", 0, 1)]),
    ([("a", "a"), ("b", "b")], [row("", "(a & b)", "both", 0, 1), row("a", "(a & b)", "both", 0, 1)]),
    ([("", "(a & b)")], [row("", "b", "left", 0), row("", "a", "right", 0), row("", "c", "left", 0),
                         row("", "(a & b)", "left", 0), row("", "(a & b)", "right", 0)]),
    ([("", "(a | b)")], [row("", "a", "left", 0), row("", "b", "right", 0), row("", "(a | b)", "one", 0)]),
    ([("", "(a > b)")], [row("", "a", "left", 0), row("", "b", "right", 0)]),
    ([("a", "(a & b)")], [row("", "a", "left", 0), row("", "b", "right", 0), row("b", "b", "right", 0)]),
    ([("", "a")], [row("", "a", "left", 0), row("", "a", "right", 0), row("", "a", "one", 0),
                   row("", "a", "other", 0)]),
    ([("", "name")], [row("", "name", "left", 0), row("", "name", "right", 0)]),
    (BOTH, [row("", "(b | a)", "one", 0), row("", "(b | a)", "other", 1), row("", "(a & b)", "one", 0),
            row("", "(a & b)", "other", 1), row("", "(a > b)", "one", 0), row("", "(a > b)", "other", 1)]),
    ([("a", "a"), ("b", "b")], [row("", "(a | b)", "one", 0), row("", "(a | b)", "other", 1),
                                row("b", "(a | b)", "one", 0), row("a", "(a | b)", "other", 1)]),
    (CASES, [row("", "c", "cases", 0, 2, 1), row("", "c", "cases", 1, 0, 2), row("", "c", "cases", 0, 1, 1),
             row("", "c", "cases", 0, 2, 2), row("", "c", "cases", 0, 1, 4), row("", "c", "cases", 0, 3, 2),
             row("", "d", "cases", 0, 1, 2), row("", "c", "cases", 0, 3, 4), row("", "c", "cases", 8, 1, 2),
             row("", "c", "cases", 9, 1, 2), row("", "c", "cases", 10, 1, 2), row("", "c", "cases", 11, 1, 2),
             row("", "c", "cases", 12, 1, 2), row("", "c", "cases", 0, 5, 2), row("", "c", "cases", 0, 1, 5),
             row("", "c", "cases", 0, 6, 6), row("", "c", "cases", 0, 7, 2), row("", "c", "cases", 0, 1, 7)]),
    ([("", "b"), ("a", "b"), ("b", "b"), ("(a > b)", "b")], [
        row("", "(b > a)", "suppose", 0), row("", "(a & b)", "suppose", 1), row("", "(a | b)", "suppose", 1),
        row("", "b", "suppose", 1), row("", "(c > b)", "suppose", 1), row("", "(a > c)", "suppose", 1),
        row("", "(a > b)", "suppose", 2), row("", "(a > b)", "suppose", 3)]),
    (ONWARD, [row("", "b", "onward", 1, 0), row("", "a", "onward", 0, 2), row("", "b", "onward", 0, 3),
              row("", "c", "onward", 0, 1), row("", "a", "onward", 0, 1), row("", "b", "onward", 4, 1),
              row("", "b", "onward", 5, 1), row("", "b", "onward", 2, 1), row("", "b", "onward", 0, 0)]),
    ([("a", "(a > b)"), ("b", "a")], [row("", "b", "onward", 0, 1), row("a", "b", "onward", 0, 1),
                                      row("b", "b", "onward", 0, 1)]),
    ([("", "a"), ("", "(# & #)"), ("", "(a > #)"), ("", "false"), ("#", "#")], [
        row("", "b", "any", up) for up in range(5)]),
    ([("", "a"), ("", "(a & b)"), ("", "((a > #) > #)")], [
        row("a", "a", rule, *ups) for ups in ((), (0,), (1,), (2,))
        for rule in ("", "Given", "given ", "giv", "is_given", "assume", "left, right", "same", "double", "middle")]),
]
WRONG = [(ahead, last) for ahead, wrong in WRONG_ROWS for last in wrong]


def rows_of(ahead, last):
    return [row(given, statement, "given") for given, statement in ahead] + [last]


def with_ups(last, *ups):
    return last[:3] + (ups,)


def with_given(one, given):
    return (tuple(given),) + one[1:]


def changed_row(rng, one):
    """A row with something else in one of its four places."""
    texts = ("a", "b", "c", "p", "q", "#", "(a & b)", "(a | b)", "(b | a)", "(a > b)", "(a | a)")
    some = [read(text) for text in texts]
    given, statement, rule, ups = one
    place = rng.randrange(4)
    if place == 0:
        return (tuple(rng.choices(given + tuple(some), k=rng.randint(0, 3))), statement, rule, ups)
    if place == 1:
        return (given, rng.choice(some + [statement[-1], statement[len(statement) // 2]])
                if len(statement) == 3 else rng.choice(some), rule, ups)
    if place == 2:
        return (given, statement, rng.choice(RULES), ups)
    return (given, statement, rule, tuple(rng.randint(-1, 3) for _ in range(len(ups) + rng.choice((-1, 0, 0, 1)))))


class FollowsTest(unittest.TestCase):
    def assert_follows(self, rows, wanted, number=None):
        number = len(rows) - 1 if number is None else number
        self.assertIs(follows(rows, number), wanted, (rows, number))

    def test_each_rule_just_right(self):
        self.assertEqual({last[2] for _, last in RIGHT}, set(RULES))
        for ahead, last in RIGHT:
            self.assert_follows(rows_of(ahead, last), True)

    def test_what_does_not_follow(self):
        for ahead, last in WRONG:
            self.assert_follows(rows_of(ahead, last), False)

    def test_more_given_in_any_order(self):
        for ahead, last in RIGHT:
            more = (read("(x | y)"),) + last[0] + (FALSE, FALSE)
            self.assert_follows(rows_of(ahead, with_given(last, more)), True)
            self.assert_follows(rows_of(ahead, with_given(last, more[::-1])), True)

    def test_too_few_given(self):
        for ahead, last in RIGHT:
            for at in range(len(last[0])):
                fewer = last[0][:at] + last[0][at + 1:]
                self.assert_follows(rows_of(ahead, with_given(last, fewer)), False)

    def test_too_much_given_in_a_row_of_ups(self):
        for ahead, last in RIGHT:
            for up in last[3]:
                rows = rows_of(ahead, last)
                rows[up] = with_given(rows[up], rows[up][0] + (read("x"),))
                self.assert_follows(rows, False)
                rows[-1] = with_given(last, last[0] + (read("x"),))
                self.assert_follows(rows, True)

    def test_given_in_rows_that_are_no_ups(self):
        rows = [row("z", "z", "given")] + rows_of([], row("a", "a", "given"))
        self.assert_follows(rows, True)
        rows = rows_of([("x", "(a & b)"), ("p", "(a & b)")], row("p", "a", "left", 1))
        self.assert_follows(rows, True)

    def test_too_few_ups(self):
        for ahead, last in RIGHT:
            for at in range(len(last[3])):
                fewer = last[3][:at] + last[3][at + 1:]
                self.assert_follows(rows_of(ahead, with_ups(last, *fewer)), False)
            if last[3]:
                self.assert_follows(rows_of(ahead, with_ups(last)), False)

    def test_too_many_ups(self):
        for ahead, last in RIGHT:
            for more in range(len(ahead)):
                self.assert_follows(rows_of(ahead, with_ups(last, *last[3], more)), False)
                self.assert_follows(rows_of(ahead, with_ups(last, more, *last[3])), False)
        self.assert_follows([row("", "a", "given"), row("a", "a", "given", 0)], False)
        self.assert_follows([row("a", "a", "given", -1)], False)

    def test_ups_that_are_not_ahead(self):
        for ahead, last in RIGHT:
            for at in range(len(last[3])):
                own = len(ahead)
                up = last[3][at]
                for wrong in (own, own + 1, own + 2, 10 ** 30, -1, -2, up - own - 1, up - own - 2, -10 ** 30):
                    ups = last[3][:at] + (wrong,) + last[3][at + 1:]
                    self.assert_follows(rows_of(ahead, with_ups(last, *ups)), False)

    def test_ups_below_0_that_would_lead_to_the_right_row(self):
        self.assert_follows([row("", "(a & b)", "given"), row("", "a", "left", 0)], True)
        self.assert_follows([row("", "(a & b)", "given"), row("", "a", "left", -2)], False)
        self.assert_follows([row("", "#", "given"), row("", "a", "any", -2)], False)

    def test_ups_behind_the_row_and_the_row_itself(self):
        rows = [row("", "a", "left", 1), row("", "(a & b)", "given")]
        self.assert_follows(rows, False, 0)
        self.assert_follows([row("", "#", "any", 0)], False)
        rows = [row("", "a", "any", 1), row("", "#", "any", 1), row("", "b", "any", 1)]
        self.assertEqual([follows(rows, number) for number in range(3)], [False, False, True])

    def test_another_rule_of_the_table(self):
        for ahead, last in RIGHT:
            for rule in RULES:
                rows = rows_of(ahead, last[:2] + (rule,) + last[3:])
                self.assert_follows(rows, plain_follows(rows, len(rows) - 1))

    def test_rows_behind_do_not_matter_and_those_ahead_need_not_follow(self):
        for ahead, last in RIGHT + WRONG:
            rows = rows_of(ahead, last)
            number = len(rows) - 1
            wanted = follows(rows, number)
            rows = [(one[0], one[1], "none", (7,)) for one in rows[:-1]] + [last, row("", "q", "any", 0)]
            self.assert_follows(rows, wanted, number)

    def test_each_row_of_a_list(self):
        rows = [row("(a & b)", "(a & b)", "given"), row("(a & b)", "b", "right", 0), row("(a & b)", "a", "left", 0),
                row("(a & b)", "(b & a)", "both", 1, 2), row("", "((a & b) > (b & a))", "suppose", 3)]
        for number in range(5):
            self.assert_follows(rows, True, number)
        rows[1] = row("(a & b)", "b", "left", 0)
        self.assertEqual([follows(rows, number) for number in range(5)], [True, False, True, True, True])

    def test_like_the_table(self):
        rng = random.Random(2)
        met = set()
        for _ in range(30000):
            ahead, last = rng.choice(RIGHT)
            rows = rows_of(ahead, last)
            for _ in range(rng.randint(1, 3)):
                at = rng.randrange(-1, len(rows) - 1)
                rows[at] = changed_row(rng, rows[at])
            wanted = plain_follows(rows, len(rows) - 1)
            self.assert_follows(rows, wanted)
            met.add((rows[-1][2], wanted))
        self.assertEqual(met, {(rule, wanted) for rule in RULES for wanted in (True, False)})

    def test_rows_that_were_made_to_follow(self):
        for seed in range(60):
            rows = made_rows(random.Random(seed), 40)
            self.assertEqual(faults(rows), [])
            self.assertTrue(all(plain_follows(rows, number) for number in range(40)))

    def test_statements_30_deep(self):
        deep = deep_by_first(30)
        rows = [((deep,), deep, "given", ()), ((deep,), deep[1], "left", (0,)),
                ((), ("then", deep, deep[1]), "suppose", (1,))]
        self.assertEqual(faults(rows), [])

    def test_nothing_is_changed(self):
        for ahead, last in RIGHT + WRONG:
            rows = rows_of(ahead, last)
            before = copy.deepcopy(rows)
            follows(rows, len(rows) - 1)
            faults(rows)
            shows(rows, last[1])
            self.assertEqual(rows, before)

    def test_nothing_is_kept_between_calls(self):
        rows = [row("a", "a", "given"), row("", "(a > a)", "suppose", 0)]
        self.assert_follows(rows, True, 1)
        rows[0] = row("b", "a", "given")
        self.assert_follows(rows, False, 1)
        self.assertEqual(faults(rows), [0, 1])
        rows[0] = row("a", "a", "given")
        self.assert_follows(rows, True, 1)


def made_rows(rng, many):
    """Rows that follow: each is made by a rule from rows ahead, and given no more than it needs, and something more."""
    pool = [A, B, C, FALSE]
    rows = []
    for _ in range(many):
        statement = (rng.choice(("and", "or", "then")), rng.choice(pool), rng.choice(pool))
        made = [((statement,), statement, "given", ())]
        for one, (given, shown, _, _) in enumerate(rows):
            made += made_from(rng, rows, one, given, shown, rng.choice(pool))
        given, shown, rule, ups = rng.choice(list_by_rule(rng, made))
        more = tuple(rng.choices(pool, k=rng.choice((0, 0, 0, 1))))
        rows.append((tuple(dict.fromkeys(more + given)), shown, rule, ups))
        if len(str(shown)) < 120:
            pool.append(shown)
    return rows


def list_by_rule(rng, made):
    """Those of a rule that was drawn, so that rules that seldom fit come as often as others."""
    rule = rng.choice(sorted({one[2] for one in made}))
    return [one for one in made if one[2] == rule]


def made_from(rng, rows, number, given, shown, other):
    """Rows that follow from this one and, where it needs more, from ones that are there."""
    found = [(given, ("or", shown, other), "one", (number,)), (given, ("or", other, shown), "other", (number,))]
    found += [(without(given, one), ("then", one, shown), "suppose", (number,)) for one in given]
    if shown == FALSE:
        found.append((given, other, "any", (number,)))
    if shown[0] == "and":
        found += [(given, shown[1], "left", (number,)), (given, shown[2], "right", (number,))]
    for second, (more, seen, _, _) in enumerate(rows):
        if rng.random() < 0.2:
            found.append((given + more, ("and", shown, seen), "both", (number, second)))
        if shown[0] == "then" and seen == shown[1]:
            found.append((given + more, shown[2], "onward", (number, second)))
        if shown[0] == "or":
            for third, last in enumerate(rows):
                if last[1] == seen:
                    needed = given + without(more, shown[1]) + without(last[0], shown[2])
                    found.append((needed, seen, "cases", (number, second, third)))
    return found


def without(given, one):
    return tuple(other for other in given if other != one)


class FaultsTest(unittest.TestCase):
    def test_no_rows(self):
        self.assertEqual(faults([]), [])

    def test_no_faults(self):
        self.assertEqual(faults([row("a", "a", "given"), row("", "(a > a)", "suppose", 0)]), [])

    def test_faults_at_each_place(self):
        good, bad = row("a", "a", "given"), row("b", "a", "given")
        for code in range(32):
            kinds = [code >> k & 1 for k in range(5)]
            rows = [bad if kind else good for kind in kinds]
            self.assertEqual(faults(rows), [k for k in range(5) if kinds[k]])

    def test_a_row_that_comes_of_a_fault_is_none_itself(self):
        rows = [row("", "(a & b)", "given"), row("", "a", "left", 0), row("", "b", "left", 0), row("", "b", "right", 0)]
        self.assertEqual(faults(rows), [0, 2])

    def test_ups_of_any_whole_numbers(self):
        rows = [row("", "#", "any", up) for up in (0, -1, 5, 4, 3, 7, -7, 10 ** 20)]
        self.assertEqual(faults(rows), [0, 1, 2, 3, 5, 6, 7])

    def test_what_is_told_is_a_list_and_the_askers_own(self):
        rows = [row("", "a", "given"), row("a", "a", "given"), row("", "b", "given")]
        told = faults(rows)
        self.assertIs(type(told), list)
        self.assertEqual(told, [0, 2])
        told.clear()
        told.append("more")
        self.assertEqual(faults(rows), [0, 2])
        kept = faults(rows)
        rows.clear()
        self.assertEqual(kept, [0, 2])


class ShowsTest(unittest.TestCase):
    swap = [row("(a & b)", "(a & b)", "given"), row("(a & b)", "b", "right", 0), row("(a & b)", "a", "left", 0),
            row("(a & b)", "(b & a)", "both", 1, 2), row("", "((a & b) > (b & a))", "suppose", 3)]

    def assert_shows(self, rows, text, wanted):
        self.assertIs(shows(rows, read(text)), wanted, (rows, text))

    def test_a_showing(self):
        self.assert_shows(self.swap, "((a & b) > (b & a))", True)
        self.assert_shows([row("a", "a", "given"), row("", "(a > a)", "suppose", 0)], "(a > a)", True)

    def test_showings_with_each_rule(self):
        self.assert_shows([row("#", "#", "given"), row("#", "a", "any", 0), row("", "(# > a)", "suppose", 1)],
                          "(# > a)", True)
        self.assert_shows([row("(a | b)", "(a | b)", "given"), row("a", "a", "given"), row("b", "b", "given"),
                           row("a", "(b | a)", "other", 1), row("b", "(b | a)", "one", 2),
                           row("(a | b)", "(b | a)", "cases", 0, 3, 4),
                           row("", "((a | b) > (b | a))", "suppose", 5)], "((a | b) > (b | a))", True)
        self.assert_shows([row("a", "a", "given"), row("(a > b)", "(a > b)", "given"),
                           row("a, (a > b)", "b", "onward", 1, 0), row("a", "((a > b) > b)", "suppose", 2),
                           row("", "(a > ((a > b) > b))", "suppose", 3)], "(a > ((a > b) > b))", True)

    def test_no_row(self):
        for text in ("a", "#", "(a > a)"):
            self.assert_shows([], text, False)

    def test_a_row_that_does_not_follow(self):
        for at in range(5):
            rows = list(self.swap)
            rows[at] = rows[at][:2] + ("nothing",) + rows[at][3:]
            self.assert_shows(rows, "((a & b) > (b & a))", False)

    def test_a_row_that_does_not_follow_and_is_not_needed(self):
        for at in range(5):
            rows = [row("", "a", "given")] + [one[:3] + (tuple(up + 1 for up in one[3]),) for one in self.swap]
            self.assert_shows(rows[1:2], "((a & b) > (b & a))", False)
            self.assert_shows(rows, "((a & b) > (b & a))", False)
        rows[0] = row("b", "b", "given")
        self.assert_shows(rows, "((a & b) > (b & a))", True)

    def test_another_last_statement(self):
        for text in ("((a & b) > (a & b))", "((b & a) > (a & b))", "(b & a)", "a", "#", "((a & b) | (b & a))"):
            self.assert_shows(self.swap, text, False)
        self.assert_shows(self.swap + [row("c", "c", "given")], "((a & b) > (b & a))", False)
        self.assert_shows(self.swap[:-1], "((a & b) > (b & a))", False)

    def test_the_statement_is_not_in_the_last_row(self):
        rows = [row("a", "a", "given"), row("", "(a > a)", "suppose", 0), row("", "((a > a) | b)", "one", 1)]
        self.assert_shows(rows, "(a > a)", False)
        self.assert_shows(rows, "((a > a) | b)", True)

    def test_something_given_in_the_last_row(self):
        self.assert_shows([row("a", "a", "given")], "a", False)
        self.assert_shows(self.swap[:-1], "(b & a)", False)
        for given in ("a", "c", "#", "((a & b) > (b & a))", "a, b"):
            last = row(given, "((a & b) > (b & a))", "suppose", 3)
            self.assert_shows(self.swap[:-1] + [last], "((a & b) > (b & a))", False)

    def test_nothing_is_changed_and_nothing_is_kept(self):
        rows = list(self.swap)
        self.assert_shows(rows, "((a & b) > (b & a))", True)
        self.assertEqual(rows, self.swap)
        rows.pop(0)
        self.assert_shows(rows, "((a & b) > (b & a))", False)
        self.assert_shows(self.swap, "((a & b) > (b & a))", True)


class SoundTest(unittest.TestCase):
    """Point 14."""

    trees = [tree for many in (1, 2, 3) for tree in all_trees("ab", many)] + all_trees("abc", 2)

    def test_where_all_given_hold_the_statement_holds(self):
        met = set()
        for seed in range(40):
            rows = made_rows(random.Random(seed), 25)
            self.assertEqual(faults(rows), [])
            met |= {one[2] for one in rows}
            for tree in self.trees[seed % 5::5]:
                for given, statement, _, _ in rows:
                    self.assertTrue(holds_from(tree, given, statement), (tree, given, statement))
        self.assertEqual(met, set(RULES))

    def test_what_is_shown_fails_nowhere(self):
        for rows in (ShowsTest.swap, [row("a", "a", "given"), row("", "(a > a)", "suppose", 0)]):
            for tree in self.trees:
                self.assertTrue(holds_from(tree, (), rows[-1][1]))


def holds_from(tree, given, statement):
    """Whether the statement holds at each world at which all given hold."""
    return all(plain_holds(tree, number, statement) for number in range(len(tree))
               if all(plain_holds(tree, number, one) for one in given))


class InterfaceTest(unittest.TestCase):
    def test_all_are_defined_in_the_file_of_the_showings(self):
        for name in ("follows", "faults", "shows"):
            self.assertEqual(getattr(showings, name).__module__, "showtree.showings")


if __name__ == "__main__":
    unittest.main()
