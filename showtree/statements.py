"""Names and statements: what they are, and the parts of a statement."""

LONGEST_NAME = 8
DEEPEST = 30
JOINING = ("and", "or", "then")


def is_name(thing):
    """Tell whether the thing is a name: a text of 1 to 8 signs a to z."""
    if not isinstance(thing, str) or not 1 <= len(thing) <= LONGEST_NAME:
        return False
    return all("a" <= sign <= "z" for sign in thing)


def is_statement(thing):
    """Tell whether the thing is a statement."""
    level = [thing]
    for _ in range(DEEPEST):
        if not all(is_formed(one) for one in level):
            return False
        level = level_below(level)
    return len(level) == 0


def parts(statement):
    """List the parts of a statement, each once, in the order in which they end in its text."""
    return shelved(statement).things


def numbered(statement):
    """List the parts in their order, each with the numbers of its halves among them in place of the halves."""
    shelf = shelved(statement)
    return [with_numbers(part, shelf) for part in shelf.things]


class Shelf:
    """Holds things, each once, numbered from 0 as they come.

    One tuple may stand in a statement in many places: 30 deep it can be met
    2 ** 29 times. Whoever asks the shelf enters each thing once only.
    The things are no keys of a dict themselves: they are too deep for that,
    and hashing them would go all the way down in each of these places.
    """

    def __init__(self):
        self.things = []
        self.rows = {}

    def number(self, thing):
        """The number of the thing, or None where it isn't held."""
        for row in self.rows.get(beginning(thing), []):
            if self.things[row] == thing:
                return row
        return None

    def takes(self, thing):
        """Hold the thing, and tell whether it is new here."""
        if self.number(thing) is not None:
            return False
        self.rows.setdefault(beginning(thing), []).append(len(self.things))
        self.things.append(thing)
        return True


def beginning(thing):
    """The words on the way down the first halves: alike for equal things, and seldom alike for others."""
    words = []
    while is_formed(thing) and thing[0] in JOINING:
        words.append(thing[0])
        thing = thing[1]
    if is_formed(thing):
        words.extend(thing)
    return " ".join(words)


def is_formed(thing):
    """Tell whether the thing is formed as a statement is, whatever its two halves are."""
    if not isinstance(thing, tuple) or len(thing) == 0:
        return False
    word = thing[0]
    if word == "name":
        return len(thing) == 2 and is_name(thing[1])
    if word == "false":
        return len(thing) == 1
    return len(thing) == 3 and word in JOINING


def halves(formed):
    """List the A and the B of an and, an or or a then; a name and false have none."""
    if formed[0] in JOINING:
        return [formed[1], formed[2]]
    return []


def level_below(level):
    """List the halves of all things of a level, each once."""
    shelf = Shelf()
    return [half for one in level for half in halves(one) if shelf.takes(half)]


def shelved(statement):
    """A shelf with the parts of a statement, in their order."""
    shelf = Shelf()
    shelve(statement, shelf)
    return shelf


def shelve(statement, shelf):
    """Put a statement on the shelf, behind its other parts, where it isn't there yet."""
    if shelf.number(statement) is None:
        for half in halves(statement):
            shelve(half, shelf)
        shelf.takes(statement)


def with_numbers(part, shelf):
    """The part with the numbers of its halves in their place; a name and false as they are."""
    if part[0] in JOINING:
        return part[0], shelf.number(part[1]), shelf.number(part[2])
    return part
