"""Looking at the map of a tree with changes over it, and noting what was looked at (point [17])."""

from sameanswer.keys import is_in
from sameanswer.trees import applied


class Look:
    """The map of a tree with changes over it: a dict with a value, or None for a removed key, for some keys."""

    def __init__(self, tree, changes):
        self._tree = tree
        self._changes = {key: changes[key] for key in changes}
        # The ranges are the keys of a dict, because each of them is told once, in the order of the first reading.
        self._ranges = {}

    def get(self, key):
        """The value of a key, or None if the key is not there."""
        self._ranges[(key, key + (0,))] = True
        return self._changes[key] if key in self._changes else self._tree.get(key)

    def scan(self, span):
        """The list of the pairs (key, value) in the range, in order."""
        self._ranges[span] = True
        changes = [(key, value) for key, value in self._changes.items() if is_in(key, span)]
        return applied(self._tree.scan(span), changes)

    def looks(self):
        """The list of the ranges that were looked at, in the order in which they were read, each once."""
        return list(self._ranges)
