"""Trees of worlds, and what holds at their worlds."""

from showtree.errors import NoWorld
from showtree.statements import is_name, numbered


def is_tree(thing):
    """Tell whether the thing is a tree of worlds."""
    if not isinstance(thing, tuple) or len(thing) == 0:
        return False
    return all(is_world(thing, number) for number in range(len(thing)))


def is_world(tree, number):
    """Tell whether there is a world at a number of what may be a tree, all ahead of it being worlds."""
    world = tree[number]
    if not isinstance(world, tuple) or len(world) != 2:
        return False
    parent, names = world
    if not are_names(names):
        return False
    if number == 0:
        return parent is None
    return is_number_below(parent, number) and all(name in names for name in tree[parent][1])


def are_names(thing):
    """Tell whether the thing is a tuple of names, rising, each once."""
    if not isinstance(thing, tuple) or not all(is_name(name) for name in thing):
        return False
    return all(thing[k - 1] < thing[k] for k in range(1, len(thing)))


def is_number_below(thing, limit):
    """Tell whether the thing is a whole number from 0 on and below the limit; a truth is none."""
    return isinstance(thing, int) and not isinstance(thing, bool) and 0 <= thing < limit


def above(tree, number):
    """List the numbers of the worlds at or above a world, rising."""
    refuse_missing(tree, number)
    reached = [False] * len(tree)
    reached[number] = True
    for later in range(number + 1, len(tree)):
        parent, _ = tree[later]
        reached[later] = reached[parent]
    return [world for world in range(len(tree)) if reached[world]]


def holds(tree, number, statement):
    """Tell whether a statement holds at a world."""
    refuse_missing(tree, number)
    # Part by part over all worlds: asking anew at each world above would take far too long where thens are nested.
    truths = []
    for form in numbered(statement):
        truths.append(truths_of(tree, form, truths))
    return truths[-1][number]


def refuse_missing(tree, number):
    """Refuse a number of which there is no world."""
    if not is_number_below(number, len(tree)):
        raise NoWorld(f"there is no world {number} among {len(tree)}")


def truths_of(tree, form, truths):
    """List for each world whether a part holds at it; truths tells it of the parts ahead of this one."""
    word = form[0]
    if word == "name":
        return [form[1] in names for _, names in tree]
    if word == "false":
        return [False for _ in tree]
    pairs = list(zip(truths[form[1]], truths[form[2]]))
    if word == "and":
        return [first and second for first, second in pairs]
    if word == "or":
        return [first or second for first, second in pairs]
    return truths_of_then(tree, pairs)


def truths_of_then(tree, pairs):
    """List for each world whether at all worlds at or above it the second holds where the first does."""
    truths = [second or not first for first, second in pairs]
    # From the last world on, so that what fails above has come down to a world before that is asked.
    for number in range(len(tree) - 1, 0, -1):
        parent, _ = tree[number]
        truths[parent] = truths[parent] and truths[number]
    return truths
