"""Views: queries whose answers are kept as long as they would be the same (point [30])."""

from sameanswer.looks import Look
from sameanswer.queries import answer
from sameanswer.transactions import differing, touch


class View:
    """A query with its answer; runs tells how often the query was run without being refused."""

    def __init__(self, tree, query):
        self.runs = 0
        self._query = query
        self._run(tree)

    def ask(self, tree):
        """The answer on this tree. Raises Refused if the query would be refused on it."""
        if touch(differing(self._tree, tree), self._looks):
            self._run(tree)
        return list(self._answer)

    def _run(self, tree):
        """Runs the query and keeps its answer. If it is refused, nothing changes."""
        look = Look(tree, {})
        told = answer(look, self._query)
        self._tree = tree
        self._answer = told
        self._looks = look.looks()
        self.runs += 1
