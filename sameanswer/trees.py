"""Trees of pages: ordered maps, and how a tree is changed into a new one (points [8] to [11])."""

from sameanswer.errors import DiskFull
from sameanswer.keys import is_in, key_of
from sameanswer.pages import PAGE_SIZE

# The bytes of a page before its first entry or child, those of a child without its first key, and those of an entry
# without its key and its value.
PAGE_START = 2
CHILD_START = 3
ENTRY_START = 2


class Tree:
    """An ordered map: the number of its root page, or None, and a dict in which it finds its pages."""

    def __init__(self, root, pages):
        self.root = root
        self.pages = dict(pages)

    def get(self, key):
        """The value of a key, or None if the key is not there."""
        number = self.root
        while number is not None:
            kind, parts = self.pages[number]
            if kind == "leaf":
                return dict(parts).get(key)
            number = parts[child_place(parts, key)][1]
        return None

    def scan(self, span):
        """The list of the pairs (key, value) in the range, in order."""
        return [] if self.root is None else entries_in(self.pages, self.root, span)

    def numbers(self):
        """The sorted list of the numbers of the pages that the tree reaches."""
        return sorted(reached(self.pages, self.root))

    def changed(self, changes, free):
        """The pair of the tree with these changes and the list of the numbers that its new pages took."""
        if self.root is None:
            nodes = new_nodes("leaf", applied((), changes))
        else:
            nodes = changed_nodes(self.pages, self.root, (), changes)
        top = top_node(self.pages, nodes)
        numbering = Numbering(self.pages, free)
        root = None if top is None else numbering.place(top)
        return Tree(root, numbering.pages), numbering.taken


def child_place(children, key):
    """The place of the last child whose first key is not greater than the key, or that of the first child."""
    place = 0
    while place + 1 < len(children) and children[place + 1][0] <= key:
        place += 1
    return place


def entries_in(pages, number, span):
    """The list of the pairs (key, value) in the range of a page and all pages below it, in order."""
    kind, parts = pages[number]
    if kind == "leaf":
        return [(key, value) for key, value in parts if is_in(key, span)]
    low, high = span
    found = []
    # Only a page that has keys in the range or lies on the way to its low end is visited.
    for first, child in parts[child_place(parts, low):]:
        if first < high:
            found.extend(entries_in(pages, child, span))
    return found


def reached(pages, root):
    """The list of the numbers of the pages that are reached from this one, which may be None."""
    numbers = []
    waiting = [] if root is None else [root]
    while waiting:
        number = waiting.pop()
        numbers.append(number)
        kind, parts = pages[number]
        if kind == "inner":
            waiting.extend([child for _, child in parts])
    return numbers


class Node:
    """A page of the tree that is made: one that stays has its number, a new one has None, its kind and its parts.

    The parts are entries or nodes. The first key is the least key in the page; but at the left edge of the tree, where
    the empty key is written for it, it may be the empty key.
    """

    def __init__(self, first, number, kind, parts):
        self.first = first
        self.number = number
        self.kind = kind
        self.parts = parts


def staying_node(first, number):
    """The node of a page of the old tree that stays."""
    return Node(first, number, None, ())


def new_node(kind, parts):
    """The node of a new page with these entries or nodes, of which there is at least one."""
    return Node(parts[0][0] if kind == "leaf" else parts[0].first, None, kind, parts)


def new_nodes(kind, parts):
    """New pages with all these entries or nodes: as many as fit are taken from the front, then the next page begins."""
    nodes = []
    run = []
    size = PAGE_START
    for part in parts:
        if run and size + part_size(kind, part, False) > PAGE_SIZE:
            nodes.append(new_node(kind, run))
            run = []
            size = PAGE_START
        size += part_size(kind, part, not run)
        run.append(part)
    if run:
        nodes.append(new_node(kind, run))
    return nodes


def part_size(kind, part, leads):
    """The number of bytes of an entry or a node in its page; leads is True for the first one of the page."""
    if kind == "leaf":
        key, value = part
        return ENTRY_START + len(key) + len(key_of(value))
    # The first child is written with the empty key, whatever its first key is.
    return CHILD_START + (0 if leads else len(part.first))


def applied(entries, changes):
    """The list of the entries after the changes."""
    values = {key: value for key, value in entries}
    for key, value in changes:
        values[key] = value
    return [(key, values[key]) for key in sorted(values) if values[key] is not None]


def changed_nodes(pages, number, first, changes):
    """The nodes that a page becomes, in order; first is its first key in the old tree."""
    if not changes:
        return [staying_node(first, number)]
    kind, parts = pages[number]
    if kind == "leaf":
        after = applied(parts, changes)
        same = after == list(parts)
    else:
        after = changed_children(pages, first, parts, changes)
        same = [node.number for node in after] == [child for _, child in parts]
    # A page in which something changes makes way for new ones, even if one of these has just what was in it.
    return [staying_node(first, number)] if same else new_nodes(kind, after)


def changed_children(pages, first, children, changes):
    """The nodes that the children of a page become, in order; first is the first key of the page in the old tree."""
    shares = [[] for _ in children]
    for key, value in changes:
        shares[child_place(children, key)].append((key, value))
    nodes = []
    for place, share in enumerate(shares):
        child_first, child = children[place]
        # The page has the empty key for its first child, whose least key is its own.
        nodes.extend(changed_nodes(pages, child, child_first if place > 0 else first, share))
    return nodes


def top_node(pages, nodes):
    """The node of the root over these nodes, or None if there are none."""
    while len(nodes) > 1:
        nodes = new_nodes("inner", nodes)
    top = nodes[0] if nodes else None
    below = only_child(pages, top)
    while below is not None:
        top = below
        below = only_child(pages, top)
    return top


def only_child(pages, node):
    """The node of the child of an inner page that has a single one, otherwise None."""
    if node is None:
        return None
    if node.number is None:
        return node.parts[0] if node.kind == "inner" and len(node.parts) == 1 else None
    kind, parts = pages[node.number]
    return staying_node((), parts[0][1]) if kind == "inner" and len(parts) == 1 else None


class Numbering:
    """Gives the new pages of a tree their numbers, and collects the pages of the tree."""

    def __init__(self, old_pages, free):
        self.old_pages = old_pages
        self.free = free
        self.pages = {}
        self.taken = []

    def place(self, node):
        """Puts the pages of a node and of all nodes below it into the dict, and returns the number of its page."""
        if node.number is not None:
            for number in reached(self.old_pages, node.number):
                self.pages[number] = self.old_pages[number]
            return node.number
        # The children come first, so that the numbers are taken in postorder.
        page = node.kind, tuple(node.parts if node.kind == "leaf" else self.children(node))
        number = self.next_number()
        self.pages[number] = page
        return number

    def children(self, node):
        """The list of the children of a new inner page, all of which are placed."""
        children = []
        for below in node.parts:
            children.append((below.first if children else (), self.place(below)))
        return children

    def next_number(self):
        """Takes the next free number. Raises DiskFull if there is none."""
        if len(self.taken) == len(self.free):
            raise DiskFull("there are fewer free pages than new ones")
        number = self.free[len(self.taken)]
        self.taken.append(number)
        return number
