"""The search: what can be shown from some parts of a statement."""

from showtree.errors import TooLarge
from showtree.statements import numbered, parts

MOST_PARTS = 16


def theory(statement, given):
    """List the parts of a statement that can be shown from the given ones, in the order of parts."""
    search = Search(statement)
    known = search.theory_of(given).known
    return [part for part, is_known in zip(search.parts, known) if is_known]


class Theory:
    """What can be shown from some parts: these, and all that the steps add, in their order.

    The list known tells of each part, by its number, whether it is in the theory.
    A step is the number of a part, the rule that shows it, and the ups of that.
    An up is the number of a part, the number of the part that is supposed there,
    and the theory with that supposed; both are None where nothing is supposed.
    """

    def __init__(self, start):
        self.known = list(start)
        self.steps = []

    def enter(self, number, rule, ups):
        """Add a part by a step."""
        self.known[number] = True
        self.steps.append((number, rule, ups))


class Search:
    """The theories of the parts of one statement, each worked out once."""

    def __init__(self, statement):
        self.parts = parts(statement)
        if len(self.parts) > MOST_PARTS:
            raise TooLarge(f"a statement of {len(self.parts)} parts, more than {MOST_PARTS}, is not searched")
        self.forms = numbered(statement)
        self.theories = {}

    def theory_of(self, given):
        """The theory of the given parts."""
        return self.theory_from(tuple(part in given for part in self.parts))

    def theory_with(self, known, number):
        """The theory of the known parts and one more."""
        wider = list(known)
        wider[number] = True
        return self.theory_from(tuple(wider))

    def theory_from(self, start):
        """The theory of the parts of which start tells that they are known."""
        if start not in self.theories:
            found = Theory(start)
            # It ends: each theory that is asked for meanwhile begins with more parts than are known in this one.
            while self.enter_near(found) or self.enter_supposing(found):
                pass
            self.theories[start] = found
        return self.theories[start]

    def enter_near(self, found):
        """Enter parts that follow with nothing supposed; tell whether there was one."""
        before = len(found.steps)
        for number, form in enumerate(self.forms):
            if not found.known[number]:
                reason = reason_by_halves(form, found.known) or reason_by_wholes(self.forms, found.known, number)
                if reason is not None:
                    rule, ups = reason
                    found.enter(number, rule, [(up, None, None) for up in ups])
        return len(found.steps) > before

    def enter_supposing(self, found):
        """Enter parts that follow with something supposed; tell whether there was one."""
        before = len(found.steps)
        # What is entered meanwhile is left out: with it, each supposing would need another theory.
        known = tuple(found.known)
        for number, form in enumerate(self.forms):
            if form[0] == "then" and not found.known[number] and not known[form[1]]:
                self.enter_then(found, known, number)
            if form[0] == "or" and known[number] and not known[form[1]] and not known[form[2]]:
                self.enter_cases(found, known, number)
        return len(found.steps) > before

    def enter_then(self, found, known, number):
        """Enter a then whose second is shown with its first supposed."""
        _, first, second = self.forms[number]
        inner = self.theory_with(known, first)
        if inner.known[second]:
            found.enter(number, "suppose", [(second, first, inner)])

    def enter_cases(self, found, known, number):
        """Enter the parts that are shown both with the first and with the second of an or supposed."""
        _, first, second = self.forms[number]
        one = self.theory_with(known, first)
        other = self.theory_with(known, second)
        for shown in range(len(self.forms)):
            if one.known[shown] and other.known[shown] and not found.known[shown]:
                found.enter(shown, "cases", [(number, None, None), (shown, first, one), (shown, second, other)])


def reason_by_halves(form, known):
    """A rule that shows a part from its own halves, and their numbers; None where they aren't known."""
    word = form[0]
    if word == "and" and known[form[1]] and known[form[2]]:
        return "both", [form[1], form[2]]
    if word == "or" and known[form[1]]:
        return "one", [form[1]]
    if word == "or" and known[form[2]]:
        return "other", [form[2]]
    if word == "then" and known[form[2]]:
        return "suppose", [form[2]]
    return None


def reason_by_wholes(forms, known, number):
    """A rule that shows a part from a known one that it is a half of, or from false; None where there is none."""
    for whole, form in enumerate(forms):
        reason = reason_by_whole(form, whole, known, number) if known[whole] else None
        if reason is not None:
            return reason
    return None


def reason_by_whole(form, whole, known, number):
    """A rule that shows a part from this known one, and the numbers of its ups; None where there is none."""
    word = form[0]
    if word == "false":
        return "any", [whole]
    if word == "and" and form[1] == number:
        return "left", [whole]
    if word == "and" and form[2] == number:
        return "right", [whole]
    if word == "then" and form[2] == number and known[form[1]]:
        return "onward", [whole, form[1]]
    return None
