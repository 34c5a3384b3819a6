"""Statements and wrong things that several tests use."""

A = ("name", "a")
B = ("name", "b")
C = ("name", "c")
FALSE = ("false",)
WORDS = ("and", "or", "then")

# None of these is a statement, wherever it stands.
WRONG_THINGS = [
    (), [], {}, 0, 1, 2.5, True, False, None, "", "a", "name", "false", "#", "(a & b)",
    ["name", "a"], ["false"], ["and", A, B], [A], (A,), (A, B), (A, B, C),
    ("name",), ("name", ""), ("name", "A"), ("name", "abcdefghi"), ("name", "a b"), ("name", 1),
    ("name", None), ("name", True), ("name", A), ("name", ("a",)), ("name", ["a"]), ("name", "a", "b"),
    ("name", "a", ()), ("name", A, B), ("false", "a"), ("false", A), ("false", None), ("false", A, B), ("False",),
    ("and",), ("or",), ("then",), ("and", A), ("or", A), ("then", A),
    ("and", A, B, C), ("or", A, B, None), ("then", A, B, ()), ("and", (A, B)), ("and", [A, B]),
    ("not", A), ("not", A, B), ("AND", A, B), ("and ", A, B), ("&", A, B), ("", A, B), ("a", A, B),
    (1, A, B), (None, A, B), (True, A, B), (("and",), A, B), (["and"], A, B), (A, "and", B),
    ("true",), ("a",), (None,), ((),), ("and", "a", "b"), ("or", A, "b"), ("then", ["name", "a"], B),
]


def deep_by_first(deep, word="and"):
    statement = A
    for _ in range(deep - 1):
        statement = (word, statement, B)
    return statement


def deep_by_second(deep, word="and"):
    statement = A
    for _ in range(deep - 1):
        statement = (word, B, statement)
    return statement


def deep_by_both(deep, word="and"):
    """Two halves that are one tuple, at each level: 2 ** (deep - 1) places of a name."""
    statement = A
    for _ in range(deep - 1):
        statement = (word, statement, statement)
    return statement


def deep_by_turns(deep):
    statement = FALSE
    for step in range(deep - 1):
        word = WORDS[step % 3]
        statement = (word, statement, C) if step % 2 else (word, C, statement)
    return statement


def deep_by_two(deep):
    """Two statements at each level, each of which stands in both of the next level."""
    one, other = A, B
    for _ in range(deep - 1):
        one, other = ("and", one, other), ("or", other, one)
    return one


SLIM = (deep_by_first, deep_by_second, deep_by_turns)
WIDE = (deep_by_both, deep_by_two)


def small_statements(deep, leaves=(A, B, FALSE)):
    """All statements no more than deep, over these leaves."""
    found = list(leaves)
    for _ in range(deep - 1):
        found = list(leaves) + [(word, a, b) for word in WORDS for a in found for b in found]
    return found


def bushy_statement(levels):
    """A statement with 2 ** levels different names."""
    row = [("name", letters(k)) for k in range(2 ** levels)]
    while len(row) > 1:
        row = [(WORDS[k % 3], row[k], row[k + 1]) for k in range(0, len(row), 2)]
    return row[0]


def letters(number):
    """A name of four signs, another one for each number."""
    name = ""
    for _ in range(4):
        name += "abcdefghijklmnopqrstuvwxyz"[number % 26]
        number //= 26
    return name


def places(statement):
    """The ways from the top to each part of a statement, as tuples of the indexes 1 and 2."""
    found = [()]
    if len(statement) == 3:
        found += [(half, *way) for half in (1, 2) for way in places(statement[half])]
    return found


def changed(statement, way, thing):
    """The statement with the thing in the place to which the way leads."""
    if not way:
        return thing
    row = list(statement)
    row[way[0]] = changed(row[way[0]], way[1:], thing)
    return tuple(row)


# Texts of statements that are shown, and of ones that fail; many of these are true where each name is true or false.
SHOWN = [
    "(a > a)", "(# > #)", "(# > a)", "(a > (b > a))", "((a > (b > c)) > ((a > b) > (a > c)))", "((a & b) > a)",
    "((a & b) > b)", "(a > (b > (a & b)))", "((a & b) > (b & a))", "(a > (a | b))", "(b > (a | b))",
    "((a | b) > (b | a))", "((a > c) > ((b > c) > ((a | b) > c)))", "(a > ((a > #) > #))",
    "((((a > #) > #) > #) > (a > #))", "(((a | (a > #)) > #) > #)", "(((((a > b) > a) > a) > #) > #)",
    "(((((a > #) > #) > a) > #) > #)", "((a > b) > ((b > #) > (a > #)))", "(((a | b) > #) > ((a > #) & (b > #)))",
    "(((a > #) & (b > #)) > ((a | b) > #))", "(((a > #) | (b > #)) > ((a & b) > #))", "(((a > #) | b) > (a > b))",
    "((a | b) > ((a > #) > b))", "((a & (b | c)) > ((a & b) | (a & c)))", "(((a & b) | (a & c)) > (a & (b | c)))",
    "((a | (b & c)) > ((a | b) & (a | c)))", "(((a | b) & (a | c)) > (a | (b & c)))", "(a | (# > a))",
    "(((a & b) > c) > (a > (b > c)))", "((a > (b > c)) > ((a & b) > c))", "((a > b) > ((b > c) > (a > c)))",
    "((((a > b) > b) > b) > (a > b))", "((a > (a > b)) > (a > b))", "((a & (a > #)) > b)", "((a | a) > (a & a))",
    "(((a > c) & ((a > #) > c)) > ((c > #) > #))", "((a & ((b > c) & (a > b))) > c)", "((# | a) > (a & (b > b)))",
]
FAILING = [
    "a", "#", "(a & a)", "(a | b)", "(a > b)", "(a > #)", "((a > a) > #)", "(a | (a > #))", "(((a > #) > #) > a)",
    "(((a > b) > a) > a)", "((a > b) | (b > a))", "((a > #) | ((a > #) > #))", "((a | b) > a)", "(a > (a & b))",
    "(((a & b) > #) > ((a > #) | (b > #)))", "((a > b) > ((a > #) | b))", "(((b > #) > (a > #)) > (a > b))",
    "((a > (b | c)) > ((a > b) | (a > c)))", "((((a > #) > #) > a) > (a | (a > #)))", "(((a > #) > b) > (a | b))",
    "(((a > #) > (b | c)) > (((a > #) > b) | ((a > #) > c)))", "(((a & b) > c) > ((a > c) | (b > c)))",
    "(((((a > #) > #) > a) > (a | (a > #))) > ((a > #) | ((a > #) > #)))", "(((a > b) > c) > ((a > c) > c))",
    "(b | (b > (a | (a > #))))", "(c | (c > (b | (b > (a | (a > #))))))", "((a > b) | ((b > c) | (c > a)))",
    "((((a > b) | (b > a)) > c) > c)", "((a > b) > (b > a))", "((a > #) > (a & b))", "(((a > b) > b) > (a | b))",
]

# Statements of 16 parts of which the search met the largest trees, and ones with many rows.
LARGE = [
    "((((a > b) | a) | ((b > #) > (((((a > b) > b) > ((a > b) | a)) > ((a > b) | a)) | (((a > b) > b) > ((a > b) | a)"
    ")))) | ((((a > b) > #) > #) > (((((a > b) > b) > ((a > b) | a)) > ((a > b) | a)) | (((a > b) > b) > ((a > b) | a"
    ")))))",
    "((((d > ((((a > b) > a) > a) | ((a > b) > a))) > ((c > ((((a > b) > a) > a) | ((a > b) > a))) | ((c > ((((a > b)"
    " > a) > a) | ((a > b) > a))) > ((((a > b) > a) > a) | ((a > b) > a))))) | (d > ((((a > b) > a) > a) | ((a > b) >"
    " a)))) | ((((a > b) > a) > a) > b))",
    "((((((b | (a | a)) | b) | (b | (a | a))) | ((b | (a | a)) | b)) | (((b | (a | a)) | b) | (b | (a | a)))) > ((b > "
    "(((a | a) > a) & b)) & (((a | a) | a) > (b > (((a | a) > a) & b)))))",
    "((((((c > a) | c) > ((((c > a) | c) | (c > a)) > a)) | (((((c > a) | c) > ((((c > a) | c) | (c > a)) > a)) > a) "
    "> (((c > a) | c) > ((((c > a) | c) | (c > a)) > a)))) | (((((c > a) | c) > ((((c > a) | c) | (c > a)) > a)) > a)"
    " > (((c > a) | c) > ((((c > a) | c) | (c > a)) > a)))) > ((a & ((((c > a) | c) | (c > a)) > a)) & (b > (a & (((("
    "c > a) | c) | (c > a)) > a)))))",
    "(((((d > c) > #) > c) > c) > (((c | #) > ((b > (a > c)) > #)) > ((d > c) > #)))",
    "((a > (((((b > #) > b) > (((b > c) > b) | (((b > c) > b) > b))) > (((b > c) > b) | (((b > c) > b) > b))) | (((b "
    "> #) > b) > (((b > c) > b) | (((b > c) > b) > b))))) | ((a > (((((b > #) > b) > (((b > c) > b) | (((b > c) > b) "
    "> b))) > (((b > c) > b) | (((b > c) > b) > b))) | (((b > #) > b) > (((b > c) > b) | (((b > c) > b) > b))))) > (("
    "(((b > #) > b) > (((b > c) > b) | (((b > c) > b) > b))) > (((b > c) > b) | (((b > c) > b) > b))) | (((b > #) > b"
    ") > (((b > c) > b) | (((b > c) > b) > b))))))",
]


def drawn_statement(rng, many, names="abc"):
    """A statement of no more than so many parts, drawn by chance; parts of it come at several places."""
    pool = [("name", name) for name in names] + [FALSE]
    fitting = [pool[0]]
    for _ in range(60):
        one, other = rng.choice(pool[-8:] + pool[:4]), rng.choice(pool[-8:] + pool[:4])
        statement = (rng.choice(WORDS + ("then",)), one, other)
        if count_parts(statement) <= many:
            pool.append(statement)
            fitting.append(statement)
    return max(fitting, key=count_parts)


def count_parts(statement):
    found = []
    ahead = [statement]
    while ahead:
        one = ahead.pop()
        if one not in found:
            found.append(one)
            ahead += one[1:] if len(one) == 3 else ()
    return len(found)
