"""A second way to go through a transaction again: on whole maps, without remembering anything (points [26] to [28])."""

from models import changed_map
from sayings import differences, slow_say, tables_of
from tables import map_of


class SlowTransaction:
    """A transaction on tables that are plain dicts."""

    def __init__(self, tables):
        self.base = tables
        self.now = tables
        self.notes = []

    def run(self, statement):
        """What the statement is told."""
        told, after, looks = slow_say(self.now, statement)
        self.notes.append((statement, told, looks, differences(map_of(self.now), map_of(after))))
        self.now = after
        return told

    def again(self, tables):
        """The triple of again, by running all statements again, as the end of point [28] says."""
        after = tables
        for index, (statement, told, _, _) in enumerate(self.notes):
            now, after, _ = slow_say(after, statement)
            if now != told:
                return index, now, None
        return None, None, differences(map_of(tables), map_of(after))

    def reruns(self, tables):
        """How many statements point [27] runs again."""
        count, noted, own = 0, map_of(self.base), map_of(tables)
        for statement, told, looks, changes in self.notes:
            made = changes
            if any(low <= key < high for key in differences(noted, own) for low, high in looks):
                count += 1
                now, after, _ = slow_say(tables_of(own), statement)
                if now != told:
                    return count
                made = differences(own, map_of(after))
            noted, own = changed_map(noted, changes.items()), changed_map(own, made.items())
        return count
