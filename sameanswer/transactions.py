"""Transactions: what they noted, and whether it would be answered again (points [26] to [28])."""

from sameanswer.errors import Refused
from sameanswer.keys import is_in
from sameanswer.looks import Look
from sameanswer.statements import say

# The range of all keys, since a byte is less than 256.
ALL_KEYS = ((), (256,))


def differing(first, second):
    """The sorted list of the keys whose values differ between two trees."""
    before = {key: value for key, value in first.scan(ALL_KEYS)}
    after = {key: value for key, value in second.scan(ALL_KEYS)}
    return sorted([key for key in {**before, **after} if before.get(key) != after.get(key)])


def touch(keys, spans):
    """True if some key is in some range."""
    return any(is_in(key, span) for span in spans for key in keys)


def outcome(look, statement):
    """What a statement is answered, ("answer", answer) or ("problem", problem), and the dict of its changes."""
    try:
        told, changes = say(look, statement)
    except Refused as refused:
        return ("problem", refused.problem), {}
    return ("answer", told), changes


class Transaction:
    """Statements that run on a base, which stays as it is, and are noted."""

    def __init__(self, tree):
        self.reruns = 0
        self._base = tree
        self._changes = {}
        self._notes = []

    def run(self, statement):
        """The answer of a statement on the base with the changes so far. Raises Refused; the statement is noted."""
        look = Look(self._base, self._changes)
        told, changes = outcome(look, statement)
        self._notes.append((statement, told, look.looks(), changes))
        for key in changes:
            self._changes[key] = changes[key]
        word, result = told
        if word == "problem":
            raise Refused(result)
        # The note must stay as it is, whatever is done to the list that is told.
        return list(result) if isinstance(result, list) else result

    def again(self, tree):
        """The triple (index, told, changes): what has another answer on the tree now, or else what is changed."""
        passage = Passage(self._base, tree)
        for index, (statement, told, looks, changes) in enumerate(self._notes):
            made = changes
            if touch(passage.touched, looks):
                self.reruns += 1
                now, made = outcome(Look(tree, passage.own), statement)
                if now != told:
                    return index, now, None
            passage.go_on(changes, made)
        return None, None, passage.changes_left()


class Passage:
    """How far the statements are gone through: the touched keys, the noted changes and the own changes so far."""

    def __init__(self, base, tree):
        self.base = base
        self.tree = tree
        self.noted = {}
        self.own = {}
        self.touched = {key: True for key in differing(base, tree)}

    def go_on(self, noted, made):
        """Adds the changes of a statement that were noted, and those that count now."""
        for key in noted:
            self.noted[key] = noted[key]
        for key in made:
            self.own[key] = made[key]
        # Only at these keys can a difference have come or gone.
        for key in list(noted) + list(made):
            if value_over(self.base, self.noted, key) != value_over(self.tree, self.own, key):
                self.touched[key] = True
            else:
                self.touched.pop(key, None)

    def changes_left(self):
        """The dict of the own changes that differ from the tree."""
        return {key: value for key, value in self.own.items() if self.tree.get(key) != value}


def value_over(tree, changes, key):
    """The value of a key in a tree with changes over it, or None."""
    return changes[key] if key in changes else tree.get(key)
