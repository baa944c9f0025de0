"""A second way to change a tree and to lose power, with drawn changes and the checks that every tree must pass."""

from bisect import bisect_right

from samples import drawn_bytes, drawn_value, slow_key, slow_page, slow_read

EVERYTHING = ((), (3,))


def k(number, size=60):
    """A key of so many bytes. Four entries with keys of 60 bytes and empty values fill a leaf."""
    return (1, number) + (7,) * (size - 2)


def put(*numbers):
    """The changes that put entries with empty values in."""
    return [(k(number), ()) for number in numbers]


def away(*numbers):
    """The changes that remove the keys."""
    return [(k(number), None) for number in numbers]


def drawn_map_key(draw, shortest=10, longest=50):
    """A key of the map: any bytes, with few different ones at the front so that keys come close to each other."""
    size = draw.randint(shortest, longest)
    front = tuple(draw.choice((1, 2)) for _ in range(3))
    return (front + tuple(draw.randrange(256) for _ in range(longest)))[:size]


def drawn_map_value(draw, longest=35):
    """A tuple of values whose bytes are at most so many."""
    values = ()
    for _ in range(draw.randrange(7)):
        longer = values + (drawn_value(draw),)
        if len(slow_key(longer)) <= longest:
            values = longer
    return values


def neighbour(draw, key):
    """A key close to this one: it may start with it, or it may be the start of it."""
    way = draw.randrange(3)
    if way == 0:
        return key + (draw.randrange(3),)
    if way == 1:
        return key[:-1]
    return key[:-1] + ((key[-1] + draw.choice((1, 255))) & 255,)


def drawn_changes(draw, present, many, removals):
    """Changes of at most so many keys; removals tells which share of the keys that are there goes, in tenths."""
    keys = sorted(present)
    changes = {}
    for _ in range(many):
        way = draw.randrange(10)
        if keys and way < removals:
            changes[draw.choice(keys)] = None
        elif keys and way < removals + 3:
            key = draw.choice(keys)
            changes[key] = present[key] if draw.randrange(3) == 0 else drawn_map_value(draw)
            beside = neighbour(draw, key)
            if 10 <= len(beside) <= 50:
                changes[beside] = draw.choice((None, drawn_map_value(draw)))
        else:
            changes[drawn_map_key(draw)] = None if draw.randrange(6) == 0 else drawn_map_value(draw)
    return sorted(changes.items())[:many]


def drawn_span(draw, present):
    """A range with ends at keys, between keys, below and above all of them, perhaps empty."""
    ends = [draw.choice(EVERYTHING) for _ in range(2)]
    for at in range(2):
        way = draw.randrange(5)
        if present and way < 3:
            key = draw.choice(sorted(present))
            ends[at] = (key, neighbour(draw, key), key[:draw.randrange(len(key))])[way]
        elif way == 3:
            ends[at] = drawn_bytes(draw, 20)
    return tuple(ends) if draw.randrange(4) == 0 else tuple(sorted(ends))


def changed_map(present, changes):
    """The map after the changes, as a dict."""
    after = {**present, **dict(changes)}
    return {key: value for key, value in after.items() if value is not None}


def entries_of(root, pages):
    """All entries of a tree, in the order in which its leaves have them."""
    if root is None:
        return []
    kind, parts = pages[root]
    if kind == "leaf":
        return list(parts)
    return [entry for _, child in parts for entry in entries_of(child, pages)]


def numbers_of(root, pages):
    """The numbers of the pages of a tree in postorder."""
    if root is None:
        return []
    kind, parts = pages[root]
    below = [] if kind == "leaf" else [number for _, child in parts for number in numbers_of(child, pages)]
    return below + [root]


def way_to(root, pages, key):
    """The numbers of the pages on the way to a key."""
    way = []
    while root is not None:
        way.append(root)
        kind, parts = pages[root]
        root = None if kind == "leaf" else [child for first, child in parts if first == () or first <= key][-1]
    return way


def pages_for(root, pages, span):
    """The pages that have keys in the range or lie on the way to one of its ends."""
    wanted = set(way_to(root, pages, span[0]) + way_to(root, pages, span[1]))
    for number in numbers_of(root, pages):
        if any(span[0] <= key < span[1] for key, _ in entries_of(number, pages)):
            wanted.add(number)
    return {number: pages[number] for number in wanted}


def check_tree(test, root, pages):
    """Points [8], [9] and [10] of a tree whose dict must have its pages alone."""
    keys = [key for key, _ in entries_of(root, pages)]
    test.assertEqual(keys, sorted(set(keys)))
    test.assertEqual(sorted(numbers_of(root, pages)), sorted(pages))
    if root is not None:
        test.assertTrue(pages[root][0] == "leaf" or len(pages[root][1]) > 1)
        check_page(test, root, pages)


def check_page(test, number, pages):
    """The points of a page and of all pages below it; returns the depth of its leaves."""
    kind, parts = pages[number]
    test.assertIsInstance(parts, tuple)
    test.assertGreater(len(parts), 0)
    test.assertEqual(slow_read(slow_page(pages[number])), pages[number])
    if kind == "leaf":
        return 0
    test.assertEqual(kind, "inner")
    test.assertEqual(parts[0][0], ())
    for first, child in parts[1:]:
        test.assertEqual(first, entries_of(child, pages)[0][0])
    depths = {check_page(test, child, pages) for _, child in parts}
    test.assertEqual(len(depths), 1)
    return depths.pop() + 1


def whole(number, pages):
    """A page with all pages below it: (least key, number, kind, parts)."""
    kind, parts = pages[number]
    if kind == "leaf":
        return parts[0][0], number, kind, list(parts)
    children = [whole(child, pages) for _, child in parts]
    return children[0][0], number, kind, children


def fits(kind, parts):
    """True if a page with these parts has at most 256 bytes."""
    if kind == "leaf":
        return slow_page((kind, tuple(parts))) is not None
    return slow_page((kind, tuple((part[0] if at else (), 0) for at, part in enumerate(parts)))) is not None


def packed(kind, parts):
    """New pages with these parts, filled from the front."""
    pages = []
    while parts:
        size = 1
        while size < len(parts) and fits(kind, parts[:size + 1]):
            size += 1
        pages.append((parts[0][0], None, kind, parts[:size]))
        parts = parts[size:]
    return pages


def remade(page, changes):
    """What a page becomes by the changes that go to it."""
    _, _, kind, parts = page
    if kind == "leaf":
        values = dict(parts)
        if all(values.get(key) == value for key, value in changes):
            return [page]
        return packed(kind, sorted(changed_map(values, changes).items()))
    bounds = [child[0] for child in parts]
    homes = [max(bisect_right(bounds, key) - 1, 0) for key, _ in changes]
    children = []
    for at, child in enumerate(parts):
        children.extend(remade(child, [change for change, home in zip(changes, homes) if home == at]))
    return [page] if children == parts else packed(kind, children)


def slow_changed(root, pages, changes, free):
    """The root, the pages and the new numbers of a changed tree, or None if the free numbers are too few."""
    if root is None:
        tops = packed("leaf", [change for change in changes if change[1] is not None])
    else:
        tops = remade(whole(root, pages), changes)
    while len(tops) > 1:
        tops = packed("inner", tops)
    while tops and tops[0][2] == "inner" and len(tops[0][3]) == 1:
        tops = tops[0][3]
    order = postorder(tops[0]) if tops else []
    fresh = [page for page in order if page[1] is None]
    if len(fresh) > len(free):
        return None
    given = {id(page): number for page, number in zip(fresh, free)}
    place = {id(page): given.get(id(page), page[1]) for page in order}
    found = {}
    for page in order:
        parts = page[3]
        if page[2] == "inner":
            parts = [(child[0] if at else (), place[id(child)]) for at, child in enumerate(parts)]
        found[place[id(page)]] = (page[2], tuple(parts))
    return (place[id(tops[0])] if tops else None), found, list(free[:len(fresh)])


def postorder(page):
    """A page behind all pages below it."""
    below = [] if page[2] == "leaf" else [one for child in page[3] for one in postorder(child)]
    return below + [page]


class SlowDisk:
    """A disk that remembers all that was ever done to it and works out everything anew from this."""

    def __init__(self, sectors):
        self.sectors = sectors
        self.arrived = []
        self.waits = []
        self.made = []
        self.lost = 0
        self.on = True
        self.in_use = False
        self.limit = None

    def read(self, index):
        data = [0] * 256
        for place, written in self.arrived + self.waits:
            data = written if place == index else data
        return list(data)

    def operation(self, kind):
        """True if an operation is made; otherwise power is off or fails."""
        if self.on and self.limit == 0:
            self.fail()
        if not self.on:
            return False
        self.limit = None if self.limit is None else self.limit - 1
        self.made.append(kind)
        return True

    def write(self, index, data):
        done = self.operation("write")
        self.waits += [(index, list(data))] if done else []
        return done

    def sync(self):
        done = self.operation("sync")
        if done:
            self.arrived, self.waits = self.arrived + self.waits, []
        return done

    def fail_after(self, operations):
        self.limit = operations if self.on else self.limit
        return self.on

    def fail(self):
        self.on, self.in_use, self.limit = False, False, None
        self.lost += 1

    def power(self, kept):
        if self.on:
            self.fail()
        for at, write in enumerate(self.waits):
            if at < len(kept) and kept[at]:
                self.arrived.append(write)
        self.waits = []
        self.on = True
