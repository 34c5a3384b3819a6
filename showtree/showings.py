"""Showings: rows that follow one by one."""


def follows(rows, number):
    """Tell whether the row of this number follows."""
    given, statement, rule, ups = rows[number]
    if rule not in RULES or not all(0 <= up < number for up in ups):
        return False
    is_so = RULES[rule]
    return is_so(given, statement, [rows[up] for up in ups])


def faults(rows):
    """List the numbers of the rows that don't follow, rising."""
    return [number for number in range(len(rows)) if not follows(rows, number)]


def shows(rows, statement):
    """Tell whether the rows are a showing of the statement."""
    if len(rows) == 0 or len(faults(rows)) > 0:
        return False
    last = rows[-1]
    return last[1] == statement and len(last[0]) == 0


def are_shown(statements, ups, given):
    """Tell whether the ups are rows of just these statements, in this order, from no more than the given."""
    if len(ups) != len(statements):
        return False
    return all(is_shown_by(row, statement, given) for row, statement in zip(ups, statements))


def is_shown_by(row, statement, given):
    """Tell whether the row shows the statement from no more than the given."""
    return row[1] == statement and all(one in given for one in row[0])


def is_given(given, statement, ups):
    """The rule given: one of the given, of no rows."""
    return len(ups) == 0 and statement in given


def is_both(given, statement, ups):
    """The rule both: an and, of its first and its second."""
    return statement[0] == "and" and are_shown([statement[1], statement[2]], ups, given)


def is_left(given, statement, ups):
    """The rule left: A, of an and."""
    return is_half(1, given, statement, ups)


def is_right(given, statement, ups):
    """The rule right: B, of an and."""
    return is_half(2, given, statement, ups)


def is_half(half, given, statement, ups):
    """Tell whether the statement is this half of an and, of which there is a row, and no other."""
    if len(ups) != 1:
        return False
    whole = ups[0][1]
    return whole[0] == "and" and whole[half] == statement and are_shown([whole], ups, given)


def is_one(given, statement, ups):
    """The rule one: an or, of its first."""
    return statement[0] == "or" and are_shown([statement[1]], ups, given)


def is_other(given, statement, ups):
    """The rule other: an or, of its second."""
    return statement[0] == "or" and are_shown([statement[2]], ups, given)


def is_cases(given, statement, ups):
    """The rule cases: a statement, of an or and of itself with the first and with the second supposed."""
    if len(ups) != 3:
        return False
    whole, one, other = ups
    if whole[1][0] != "or" or not is_shown_by(whole, whole[1], given):
        return False
    _, first, second = whole[1]
    return is_shown_by(one, statement, given + (first,)) and is_shown_by(other, statement, given + (second,))


def is_suppose(given, statement, ups):
    """The rule suppose: a then, of its second with its first supposed."""
    return statement[0] == "then" and are_shown([statement[2]], ups, given + (statement[1],))


def is_onward(given, statement, ups):
    """The rule onward: a statement, of a then with it as its second, and of the first of that."""
    if len(ups) != 2:
        return False
    first = ups[1][1]
    return are_shown([("then", first, statement), first], ups, given)


def is_any(given, statement, ups):
    """The rule any: whatever statement, of false."""
    return are_shown([("false",)], ups, given)


RULES = {
    "given": is_given,
    "both": is_both,
    "left": is_left,
    "right": is_right,
    "one": is_one,
    "other": is_other,
    "cases": is_cases,
    "suppose": is_suppose,
    "onward": is_onward,
    "any": is_any,
}
