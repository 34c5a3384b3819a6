"""Statements told: with a showing, or with a tree of worlds at whose root they fail."""

from showtree.rows import rows_from
from showtree.search import Search
from showtree.trees import tree_from


def told(statement):
    """The pair of "shown" and a showing of a statement, or of "worlds" and a tree at whose root it fails."""
    search = Search(statement)
    found = search.theory_of([])
    last = len(search.parts) - 1
    if found.known[last]:
        return "shown", rows_from(search, found, last)
    return "worlds", tree_from(search, found, last)


def is_shown(statement):
    """Tell whether there is a showing of a statement."""
    return Search(statement).theory_of([]).known[-1]
