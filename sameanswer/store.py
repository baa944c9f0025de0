"""The store: a tree on a disk, whose commits are found again as a whole after a loss of power (points [13] to [16])."""

from sameanswer.errors import PowerOff
from sameanswer.pages import PAGE_SIZE, read_page, write_page
from sameanswer.trees import Tree

# A head begins with these bytes.
MARK = (83, 65, 77, 69)
COMMITS_AT = 4
COMMITS_BYTES = 6
ROOT_AT = 10
ROOT_BYTES = 2
HEAD_END = 12

# The two sectors for heads, and the first one for pages.
FIRST_HEAD = 0
SECOND_HEAD = 1
FIRST_PAGE = 2


def head(commits, root):
    """The sector of a head; root is the number of the root, or None for the empty map."""
    number = 0 if root is None else root
    data = list(MARK) + big_endian(commits, COMMITS_BYTES) + big_endian(number, ROOT_BYTES)
    return data + [0] * (PAGE_SIZE - len(data))


def big_endian(number, size):
    """The list of so many bytes of a number, the most significant first."""
    return [(number >> (8 * place)) & 255 for place in reversed(range(size))]


def number_of(digits):
    """The number with these bytes, the most significant first."""
    number = 0
    for digit in digits:
        number = number * 256 + digit
    return number


def read_head(sector):
    """The pair (commits, root) of a head, or None if the sector is no head."""
    commits = number_of(sector[COMMITS_AT:ROOT_AT])
    number = number_of(sector[ROOT_AT:HEAD_END])
    root = number if number != 0 else None
    return (commits, root) if list(sector) == head(commits, root) else None


def found(disk):
    """The triple (place, commits, root) of the head that counts, or None for a disk without a head."""
    best = None
    for place in (FIRST_HEAD, SECOND_HEAD):
        told = read_head(disk.read(place))
        if told is not None and (best is None or told[0] > best[1]):
            best = place, told[0], told[1]
    return best


def read_pages(disk, root):
    """The dict of the pages that are reached from the root, which may be None."""
    pages = {}
    waiting = [] if root is None else [root]
    while waiting:
        number = waiting.pop()
        kind, parts = read_page(disk.read(number))
        pages[number] = kind, parts
        if kind == "inner":
            waiting.extend([child for _, child in parts])
    return pages


class Store:
    """The store of a disk: the tree that is committed, and the number of commits."""

    def __init__(self, disk):
        # A disk can be read without power, but not opened.
        if not disk.is_on():
            raise PowerOff("power is off")
        told = found(disk)
        if told is None:
            told = FIRST_HEAD, 0, None
            disk.write(FIRST_HEAD, head(0, None))
            disk.sync()
        place, commits, root = told
        self.disk = disk
        self.place = place
        self.commits = commits
        self.tree = Tree(root, read_pages(disk, root))

    def commit(self, changes):
        """Stores the next commit. Raises DiskFull, before any operation, if the free pages are too few, or PowerOff."""
        tree, taken = self.tree.changed(changes, self.free_pages())
        for number in sorted(taken):
            self.disk.write(number, write_page(tree.pages[number]))
        # A head must never arrive before the pages that it reaches, so there is a sync between them.
        self.disk.sync()
        other = SECOND_HEAD if self.place == FIRST_HEAD else FIRST_HEAD
        self.disk.write(other, head(self.commits + 1, tree.root))
        self.disk.sync()
        self.place = other
        self.commits += 1
        self.tree = tree

    def free_pages(self):
        """The list of the sectors for pages that the tree does not reach, ascending."""
        in_tree = {number: True for number in self.tree.numbers()}
        return [number for number in range(FIRST_PAGE, self.disk.size()) if number not in in_tree]
