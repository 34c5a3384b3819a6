"""A tree of worlds at whose root a statement fails, grown from the theories of its parts."""


def tree_from(search, found, number):
    """A tree of worlds at whose root a part fails that isn't in found, the theory of nothing."""
    grower = Grower(search)
    grower.grow(None, grower.widest(found.known, number))
    return tuple(grower.worlds)


class Grower:
    """Grows a tree. Each world is a theory, and just the parts that are in the theory hold at it.

    So it must be one that has, with an or, one of its halves; and where a then
    is not in it, there must be a world at or above it with the first and without
    the second.
    """

    def __init__(self, search):
        self.search = search
        self.worlds = []

    def widest(self, known, avoided):
        """A theory with the known parts and without the avoided one, so wide that any further part would bring that.

        It has a half of each of its ors: if both were to bring the avoided one, the or would have brought it.
        """
        for number in range(len(known)):
            if not known[number]:
                wider = self.search.theory_with(known, number).known
                if not wider[avoided]:
                    known = wider
        return known

    def grow(self, parent, known):
        """Add a world, and above it those at which its missing thens fail."""
        world = len(self.worlds)
        self.worlds.append((parent, self.names(known)))
        above = []
        # From the last part on: above a world for a large then those of its parts often fail too, and trees stay small.
        for number, form in reversed(list(enumerate(self.search.forms))):
            # Where its first is known it fails at this world, and needs no other.
            is_open = form[0] == "then" and not known[number] and not known[form[1]]
            if is_open and all([other[number] for other in above]):
                wider = self.widest(self.search.theory_with(known, form[1]).known, form[2])
                above.append(wider)
                self.grow(world, wider)

    def names(self, known):
        """The names among the known parts, rising."""
        forms = [form for form, is_known in zip(self.search.forms, known) if is_known]
        return tuple(sorted([form[1] for form in forms if form[0] == "name"]))
