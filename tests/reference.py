"""What DOC.md says, written down once more and in other ways, to hold the program against it."""

import functools
import itertools

from showtree.texts import read


def row(given, statement, rule, *ups):
    """A row from texts: row("a, b", "(a & b)", "both", 0, 1)."""
    return (tuple(read(text) for text in given.split(", ") if text), read(statement), rule, ups)


def wanted_ups(statement, rule, shown):
    """The table of rules: what each row of ups must show, and what may be supposed there; None where none will do.

    Of what ups show themselves it looks only at the and, the or and the then that the rule begins with.
    """
    word, first, second = statement if len(statement) == 3 else (statement[0], None, None)
    head = shown[0] if shown and len(shown[0]) == 3 else (None, None, None)
    table = {
        "given": [],
        "both": [(first, None), (second, None)] if word == "and" else None,
        "left": [(head, None)] if head[0] == "and" and head[1] == statement else None,
        "right": [(head, None)] if head[0] == "and" and head[2] == statement else None,
        "one": [(first, None)] if word == "or" else None,
        "other": [(second, None)] if word == "or" else None,
        "cases": [(head, None), (statement, head[1]), (statement, head[2])] if head[0] == "or" else None,
        "suppose": [(second, first)] if word == "then" else None,
        "onward": [(head, None), (head[1], None)] if head[0] == "then" and head[2] == statement else None,
        "any": [(("false",), None)],
    }
    return table.get(rule)


def plain_follows(rows, number):
    given, statement, rule, ups = rows[number]
    if any(up not in range(number) for up in ups):
        return False
    wanted = wanted_ups(statement, rule, [rows[up][1] for up in ups])
    if wanted is None or len(wanted) != len(ups) or (rule == "given" and statement not in given):
        return False
    for up, (shown, supposed) in zip(ups, wanted):
        allowed = list(given) + [supposed]
        if rows[up][1] != shown or any(one not in allowed for one in rows[up][0]):
            return False
    return True


def plain_above(tree, number):
    return [number] + [k for child in range(len(tree)) if tree[child][0] == number for k in plain_above(tree, child)]


def plain_holds(tree, number, statement):
    word = statement[0]
    if word == "name":
        return statement[1] in tree[number][1]
    if word == "false":
        return False
    first, second = statement[1:]
    if word == "and":
        return plain_holds(tree, number, first) and plain_holds(tree, number, second)
    if word == "or":
        return plain_holds(tree, number, first) or plain_holds(tree, number, second)
    return all(not plain_holds(tree, k, first) or plain_holds(tree, k, second) for k in plain_above(tree, number))


def plain_is_tree(tree):
    """For tuples of pairs of a parent and a tuple of texts a to z."""
    for number, (parent, names) in enumerate(tree):
        if list(names) != sorted(set(names)):
            return False
        if number == 0 and parent is not None:
            return False
        if number > 0 and (parent not in range(number) or not set(tree[parent][1]) <= set(names)):
            return False
    return len(tree) > 0


def all_trees(names, many):
    """All trees of just so many worlds with some of these names."""
    sets = [tuple(sorted(some)) for k in range(len(names) + 1) for some in itertools.combinations(names, k)]
    found = [((None, some),) for some in sets]
    for number in range(1, many):
        found = [tree + ((parent, some),) for tree in found for parent in range(number) for some in sets
                 if set(tree[parent][1]) <= set(some)]
    return found


@functools.lru_cache(maxsize=None)
def plain_proves(left, right):
    """Whether a statement follows from a sorted tuple of statements.

    Dyckhoff's calculus without contraction: it knows nothing of parts, rows or worlds, and takes statements that are
    no parts of these.
    """
    for number, one in enumerate(left):
        rest = left[:number] + left[number + 1:]
        halved = halved_left(one, rest)
        if halved is not None:
            return all(proves(rest + new, right) for new in halved)
    if right in left:
        return True
    if right[0] == "and":
        return plain_proves(left, right[1]) and plain_proves(left, right[2])
    if right[0] == "then":
        return proves(left + (right[1],), right[2])
    if right[0] == "or" and (plain_proves(left, right[1]) or plain_proves(left, right[2])):
        return True
    for number, one in enumerate(left):
        rest = left[:number] + left[number + 1:]
        if one[0] == "then" and one[1][0] == "then":
            inner = ("then", one[1][2], one[2])
            if proves(rest + (inner,), one[1]) and proves(rest + (one[2],), right):
                return True
    return False


def halved_left(one, rest):
    """What stands in place of a statement on the left, in each of the branches; None where it must wait."""
    word = one[0]
    if word == "false":
        return []
    if word == "and":
        return [one[1:]]
    if word == "or":
        return [(one[1],), (one[2],)]
    if word == "then":
        first, second = one[1:]
        if first in rest:
            return [(second,)]
        if first[0] == "false":
            return [()]
        if first[0] == "and":
            return [(("then", first[1], ("then", first[2], second)),)]
        if first[0] == "or":
            return [(("then", first[1], second), ("then", first[2], second))]
    return None


def proves(left, right):
    return plain_proves(tuple(sorted(set(left), key=repr)), right)
