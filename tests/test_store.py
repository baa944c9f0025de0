"""Points [13] to [16]: heads, openings, commits, and what is found after losses of power."""

import copy
import itertools
import random
import unittest

from models import EVERYTHING, away, changed_map, check_tree, drawn_changes, k, put, slow_changed
from samples import slow_key, slow_page
from sameanswer.disk import Disk
from sameanswer.errors import DiskFull, PowerOff
from sameanswer.pages import write_page
from sameanswer.store import Store, found, head, read_head
from sameanswer.trees import Tree

ZEROS = [0] * 256


def slow_head(commits, root):
    """The sector of a head, written with Python's own bytes."""
    return list((b"SAME" + commits.to_bytes(6, "big") + (root or 0).to_bytes(2, "big")).ljust(256, b"\x00"))


class Recorder(Disk):
    """A disk that remembers the operations that were made."""

    def __init__(self, sectors):
        Disk.__init__(self, sectors)
        self.made = []

    def write(self, index, data):
        Disk.write(self, index, data)
        self.made.append((index, list(data)))

    def sync(self):
        Disk.sync(self)
        self.made.append("sync")


def written(places, sectors=100):
    """A disk with these sectors."""
    disk = Recorder(sectors)
    for place, data in places.items():
        disk.write(place, data)
    disk.sync()
    disk.made.clear()
    return disk


def sectors_of(disk):
    return [disk.read(index) for index in range(disk.size())]


def map_of(store):
    return dict(store.tree.scan(EVERYTHING))


class Heads(unittest.TestCase):
    def test_heads_byte_by_byte(self):
        self.assertEqual(head(0, None), [83, 65, 77, 69] + [0] * 252)
        self.assertEqual(head(1, 2), [83, 65, 77, 69, 0, 0, 0, 0, 0, 1, 0, 2] + [0] * 244)
        self.assertEqual(head(258, 599), [83, 65, 77, 69, 0, 0, 0, 0, 1, 2, 2, 87] + [0] * 244)
        self.assertEqual(head(2 ** 48 - 1, 65535), [83, 65, 77, 69] + [255] * 8 + [0] * 244)
        self.assertEqual(head(2 ** 40 + 3 * 2 ** 24, None)[4:12], [1, 0, 3, 0, 0, 0, 0, 0])

    def test_there_and_back(self):
        commits = [0, 1, 2, 255, 256, 65535, 65536, 2 ** 24, 2 ** 32 - 1, 2 ** 32, 2 ** 40, 2 ** 47, 2 ** 48 - 1]
        for many in commits:
            for root in (None, 2, 3, 99, 255, 256, 257, 511, 512, 599, 65535):
                self.assertEqual(head(many, root), slow_head(many, root))
                self.assertEqual(read_head(head(many, root)), (many, root))
                self.assertIsInstance(read_head(head(many, root)), tuple)
        self.assertIsNone(read_head(head(7, None))[1])

    def test_sectors_that_are_no_heads(self):
        for sector in (
            ZEROS, [255] * 256, [69, 77, 65, 83] + [0] * 252, [0] + head(1, 2)[:-1], head(1, 2)[1:] + [0],
            write_page(("leaf", tuple(put(1, 2)))), write_page(("inner", (((), 2), (k(3), 4)))), [83] * 256,
        ):
            self.assertIsNone(read_head(sector))

    def test_each_byte_changed(self):
        for commits, root in ((0, None), (1, 2), (2 ** 48 - 1, 65535), (77, 300)):
            sector = head(commits, root)
            for at in range(256):
                for byte in {0, 1, 2, 83, 128, 255, (sector[at] + 1) & 255} - {sector[at]}:
                    other = sector[:at] + [byte] + sector[at + 1:]
                    if 4 <= at < 12:
                        self.assertEqual(head(*read_head(other)), other)
                    else:
                        self.assertIsNone(read_head(other))

    def test_arguments_stay_and_lists_are_new(self):
        sector = head(5, 6)
        read_head(sector)
        self.assertEqual(sector, slow_head(5, 6))
        sector[:] = [1]
        self.assertEqual(head(5, 6), slow_head(5, 6))


class Found(unittest.TestCase):
    def test_no_head(self):
        self.assertIsNone(found(Disk(100)))
        self.assertIsNone(found(written({0: [1] * 256, 1: head(3, 2)[:-1] + [1], 2: head(9, 9), 99: head(1, None)})))

    def test_one_head(self):
        for root in (None, 2, 99):
            self.assertEqual(found(written({0: head(0, root)})), (0, 0, root))
            self.assertEqual(found(written({1: head(0, root)})), (1, 0, root))
            self.assertEqual(found(written({0: [9] * 256, 1: head(4, root)})), (1, 4, root))
            self.assertEqual(found(written({0: head(4, root), 1: [9] * 256})), (0, 4, root))

    def test_the_greater_number_of_commits_counts(self):
        numbers = (0, 1, 2, 255, 256, 257, 65536, 2 ** 32, 2 ** 40, 2 ** 48 - 1)
        for first, second in itertools.permutations(numbers, 2):
            disk = written({0: head(first, 5), 1: head(second, 6)})
            self.assertEqual(found(disk), (0, first, 5) if first > second else (1, second, 6))

    def test_the_one_in_sector_0_if_they_are_equal(self):
        for many in (0, 1, 2 ** 48 - 1):
            self.assertEqual(found(written({0: head(many, 5), 1: head(many, 6)})), (0, many, 5))
            self.assertEqual(found(written({0: head(many, None), 1: head(many, 6)})), (0, many, None))

    def test_heads_that_wait_are_read_too(self):
        disk = Disk(100)
        disk.write(1, head(3, 4))
        self.assertEqual(found(disk), (1, 3, 4))
        disk.fail_after(0)
        with self.assertRaises(PowerOff):
            disk.sync()
        self.assertEqual(found(disk), (1, 3, 4))
        disk.power([])
        self.assertIsNone(found(disk))

    def test_it_makes_no_operation(self):
        disk = written({0: head(1, 2)})
        before = disk.counts(), sectors_of(disk)
        self.assertIsInstance(found(disk), tuple)
        self.assertEqual((disk.made, (disk.counts(), sectors_of(disk)), disk.pending()), ([], before, 0))


class Openings(unittest.TestCase):
    def test_a_new_disk(self):
        for sectors in (100, 333, 600):
            disk = Recorder(sectors)
            store = Store(disk)
            self.assertEqual(disk.made, [(0, head(0, None)), "sync"])
            self.assertEqual((disk.counts(), disk.pending()), ((1, 1), 0))
            self.assertEqual(sectors_of(disk), [head(0, None)] + [ZEROS] * (sectors - 1))
            self.assertEqual((store.commits, store.tree.root, store.tree.pages), (0, None, {}))
            self.assertIsInstance(store.tree, Tree)
            self.assertIs(disk.in_use, False)

    def test_a_disk_without_a_head_but_with_other_sectors(self):
        disk = written({0: [4] * 256, 1: [5] * 256, 7: [6] * 256})
        store = Store(disk)
        self.assertEqual(disk.made, [(0, head(0, None)), "sync"])
        self.assertEqual((store.commits, store.tree.root), (0, None))

    def test_a_disk_with_heads(self):
        pages = {3: ("leaf", tuple(put(1, 2))), 9: ("leaf", tuple(put(5))), 40: ("inner", (((), 3), (k(5), 9)))}
        sectors = {number: slow_page(page) for number, page in pages.items()}
        stray = {2: slow_page(("leaf", tuple(put(8)))), 50: [7] * 256}
        for heads, told in (
            ({0: head(6, 40), 1: head(5, 2)}, (6, 40)), ({0: head(5, 2), 1: head(6, 40)}, (6, 40)),
            ({0: head(6, 40), 1: head(6, 2)}, (6, 40)), ({1: head(6, 40)}, (6, 40)), ({0: head(6, 40)}, (6, 40)),
            ({0: head(0, 40), 1: [9] * 256}, (0, 40)),
        ):
            disk = written({**sectors, **stray, **heads})
            before = disk.counts(), sectors_of(disk)
            store = Store(disk)
            self.assertEqual((store.commits, store.tree.root, store.tree.pages), told + (pages,))
            self.assertEqual(map_of(store), dict(put(1, 2, 5)))
            self.assertEqual((disk.made, (disk.counts(), sectors_of(disk)), disk.pending()), ([], before, 0))

    def test_a_disk_with_a_head_of_the_empty_map(self):
        disk = written({0: head(4, None), 1: head(3, 7), 7: [9] * 256})
        store = Store(disk)
        self.assertEqual((store.commits, store.tree.root, store.tree.pages), (4, None, {}))
        self.assertEqual(disk.made, [])

    def test_without_power(self):
        for disk in (Recorder(100), written({0: head(0, None)})):
            before = sectors_of(disk)
            disk.fail_after(0)
            with self.assertRaises(PowerOff):
                disk.sync()
            for _ in range(2):
                with self.assertRaises(PowerOff):
                    Store(disk)
            self.assertEqual((disk.made, disk.losses(), sectors_of(disk)), ([], 1, before))

    def test_power_that_fails_in_the_first_opening(self):
        for operations, kept, told in (
            (0, [], None), (0, [True], None), (1, [], None), (1, [False], None), (1, [True], (0, 0, None)),
        ):
            disk = Recorder(100)
            disk.fail_after(operations)
            with self.assertRaises(PowerOff):
                Store(disk)
            self.assertEqual((disk.is_on(), disk.counts(), disk.pending()), (False, (operations, 0), operations))
            disk.power(kept)
            self.assertEqual(found(disk), told)
            disk.made.clear()
            store = Store(disk)
            self.assertEqual((store.commits, store.tree.root, found(disk)), (0, None, (0, 0, None)))
            self.assertEqual(len(disk.made), 0 if told else 2)

    def test_a_failure_behind_the_opening(self):
        disk = Recorder(100)
        disk.fail_after(2)
        store = Store(disk)
        self.assertEqual((disk.is_on(), store.commits), (True, 0))
        disk.fail_after(0)
        self.assertEqual((Store(disk).commits, disk.is_on()), (0, True))


class Commits(unittest.TestCase):
    def commit(self, disk, store, changes):
        """A commit, compared operation by operation with what point [14] tells."""
        pages, root, commits = dict(store.tree.pages), store.tree.root, store.commits
        place = found(disk)[0]
        free = [number for number in range(2, disk.size()) if number not in pages]
        new_root, new_pages, taken = slow_changed(root, pages, changes, free)
        counts, told = disk.counts(), list(changes)
        disk.made.clear()
        self.assertIsNone(store.commit(changes))
        expected = [(number, slow_page(new_pages[number])) for number in sorted(taken)]
        expected += ["sync", (1 - place, slow_head(commits + 1, new_root)), "sync"]
        self.assertEqual(disk.made, expected)
        self.assertEqual(disk.counts(), (counts[0] + len(taken) + 1, counts[1] + 2))
        self.assertEqual((disk.pending(), changes), (0, told))
        self.assertEqual((store.commits, store.tree.root, store.tree.pages), (commits + 1, new_root, new_pages))
        self.assertEqual(found(disk), (1 - place, commits + 1, new_root))
        self.assertTrue(set(taken).isdisjoint(pages))
        check_tree(self, store.tree.root, store.tree.pages)

    def test_the_first_commits_sector_by_sector(self):
        disk = Recorder(100)
        store = Store(disk)
        disk.made.clear()
        store.commit(put(1))
        one = write_page(("leaf", tuple(put(1))))
        self.assertEqual(disk.made, [(2, one), "sync", (1, head(1, 2)), "sync"])
        disk.made.clear()
        store.commit(put(2, 3, 4, 5))
        first, last = write_page(("leaf", tuple(put(1, 2, 3, 4)))), write_page(("leaf", tuple(put(5))))
        root = write_page(("inner", (((), 3), (k(5), 4))))
        self.assertEqual(disk.made, [(3, first), (4, last), (5, root), "sync", (0, head(2, 5)), "sync"])
        disk.made.clear()
        store.commit(put(6))
        last, root = write_page(("leaf", tuple(put(5, 6)))), write_page(("inner", (((), 3), (k(5), 2))))
        self.assertEqual(disk.made, [(2, last), (6, root), "sync", (1, head(3, 6)), "sync"])
        self.assertEqual((store.commits, store.tree.root), (3, 6))
        self.assertEqual(disk.counts(), (1 + 2 + 4 + 3, 7))
        self.assertEqual([disk.read(index) for index in range(8)],
                         [head(2, 5), head(3, 6), last, first, write_page(("leaf", tuple(put(5)))),
                          write_page(("inner", (((), 3), (k(5), 4)))), root, ZEROS])

    def test_commits_that_change_nothing(self):
        disk = Recorder(100)
        store = Store(disk)
        for number, changes in enumerate(([], away(1), put(1), put(1), [], away(2)), 1):
            self.commit(disk, store, changes)
            self.assertEqual(store.commits, number)
        self.assertEqual(disk.counts(), (1 + 6 + 1, 1 + 12))
        for _ in range(2):
            disk.made.clear()
            store.commit([])
            self.assertEqual(disk.made, ["sync", (store.commits % 2, head(store.commits, 2)), "sync"])

    def test_nothing_is_left(self):
        disk = Recorder(100)
        store = Store(disk)
        self.commit(disk, store, put(*range(20)))
        disk.made.clear()
        store.commit(away(*range(20)))
        self.assertEqual(disk.made, ["sync", (0, head(2, None)), "sync"])
        self.assertEqual((store.tree.root, store.tree.pages, Store(disk).tree.root), (None, {}, None))
        self.commit(disk, store, put(3))
        self.assertEqual(store.tree.root, 2)

    def test_pages_are_written_in_the_order_of_their_numbers(self):
        disk = Recorder(100)
        store = Store(disk)
        self.commit(disk, store, put(*range(40)))
        self.commit(disk, store, away(*range(0, 40, 2)))
        self.commit(disk, store, put(*range(0, 40, 4)) + [(k(200), ("x",))])
        places = [made[0] for made in disk.made if made != "sync"]
        self.assertEqual(places[:-1], sorted(places[:-1]))
        self.assertGreater(len(places), 5)

    def test_drawn_rows_of_commits_with_openings_in_between(self):
        for seed in range(6):
            draw = random.Random(seed)
            disk, present = Recorder(draw.choice((300, 600))), {}
            store = Store(disk)
            for number in range(1, 15):
                changes = drawn_changes(draw, present, draw.randrange(41), draw.choice((0, 0, 0, 1, 4, 10)))
                self.commit(disk, store, changes)
                present = changed_map(present, changes)
                self.assertEqual(map_of(store), present)
                opened = Store(disk)
                self.assertEqual((opened.commits, opened.tree.root, opened.tree.pages),
                                 (number, store.tree.root, store.tree.pages))
                store = opened if draw.randrange(2) else store

    def test_a_tree_that_was_told_stays(self):
        disk = Recorder(100)
        store = Store(disk)
        store.commit(put(1, 2))
        before = store.tree
        pages = dict(before.pages)
        store.commit(away(1) + put(3))
        self.assertEqual((before.pages, before.scan(EVERYTHING)), (pages, put(1, 2)))
        self.assertEqual(map_of(store), dict(put(2, 3)))

    def test_changes_that_are_changed_afterwards(self):
        disk = Recorder(100)
        store = Store(disk)
        changes = put(1, 2)
        store.commit(changes)
        changes[:] = put(7)
        self.assertEqual((map_of(store), map_of(Store(disk))), (dict(put(1, 2)), dict(put(1, 2))))

    def test_the_number_of_commits_has_six_bytes(self):
        for many in (255, 65535, 2 ** 24 - 1, 2 ** 40 - 1):
            disk = written({0: head(many - 1, None), 1: head(many, None)})
            store = Store(disk)
            store.commit([])
            self.assertEqual((store.commits, found(disk)), (many + 1, (0, many + 1, None)))

    def test_each_store_has_its_own_disk(self):
        first, second = Recorder(100), Recorder(100)
        one, other = Store(first), Store(second)
        one.commit(put(1))
        self.assertEqual((other.commits, map_of(other), second.counts()), (0, {}, (1, 1)))
        other.commit(put(2))
        self.assertEqual((map_of(Store(first)), map_of(Store(second))), (dict(put(1)), dict(put(2))))


class Full(unittest.TestCase):
    def refused(self, disk, store, changes):
        """The commit raises DiskFull, and nothing is made or changed."""
        before = disk.counts(), disk.pending(), sectors_of(disk), store.commits, store.tree.root, dict(store.tree.pages)
        told = list(changes)
        disk.made.clear()
        with self.assertRaises(DiskFull):
            store.commit(changes)
        after = disk.counts(), disk.pending(), sectors_of(disk), store.commits, store.tree.root, store.tree.pages
        self.assertEqual((after, disk.made, changes), (before, [], told))

    def test_all_free_sectors_and_one_more_page(self):
        # 98 sectors for pages: 72 leaves, 18 inner pages over them, 5 over these, 2 over these and the root.
        keys = [(1,) * 10 + (number // 256, number % 256) + (7,) * 48 for number in range(400)]
        for leaves, pages in ((72, 98), (71, 97), (73, 100)):
            disk = Recorder(100)
            store = Store(disk)
            changes = [(key, ()) for key in keys[:4 * leaves]]
            self.assertEqual(len(slow_changed(None, {}, changes, list(range(1000)))[2]), pages)
            if pages <= 98:
                store.commit(changes)
                self.assertEqual((store.commits, len(store.tree.pages)), (1, pages))
                self.assertEqual(map_of(Store(disk)), dict(changes))
            else:
                self.refused(disk, store, changes)
                self.assertEqual(found(disk), (0, 0, None))

    def test_exactly_if_the_free_pages_are_too_few(self):
        told = [0, 0]
        for seed in range(6):
            draw = random.Random(seed)
            disk, present = Recorder(100), {}
            store = Store(disk)
            for _ in range(25):
                changes = drawn_changes(draw, present, draw.randrange(41), draw.choice((0, 0, 0, 1, 3)))
                free = [number for number in range(2, 100) if number not in store.tree.pages]
                full = slow_changed(store.tree.root, store.tree.pages, changes, free) is None
                told[full] += 1
                if full:
                    self.refused(disk, store, changes)
                else:
                    store.commit(changes)
                    present = changed_map(present, changes)
                self.assertEqual(map_of(Store(disk)), present)
        self.assertGreater(min(told), 10)

    def test_before_any_operation_also_if_power_would_fail(self):
        disk = Recorder(100)
        store = Store(disk)
        changes = [((1,) * 10 + (number // 256, number % 256) + (7,) * 48, ()) for number in range(400)]
        disk.fail_after(0)
        self.refused(disk, store, changes)
        self.assertTrue(disk.is_on())
        with self.assertRaises(PowerOff):
            store.commit([])

    def test_removals_need_no_page(self):
        disk = Recorder(100)
        store = Store(disk)
        keys = [(1,) * 10 + (number // 256, number % 256) + (7,) * 48 for number in range(288)]
        store.commit([(key, ()) for key in keys])
        self.assertEqual(len(store.tree.pages), 98)
        self.refused(disk, store, [(keys[5], ("x",))])
        store.commit([(keys[5], ())])
        store.commit([(key, None) for key in keys])
        self.assertEqual((store.commits, map_of(Store(disk))), (3, {}))


class PowerFails(unittest.TestCase):
    """Point [16]: power fails at each operation, and any of the waiting writes arrive."""

    def subsets(self, draw, many):
        """All lists of booleans for so many writes, or some of them if they are more than 16."""
        if many <= 4:
            return [list(kept) for kept in itertools.product((False, True), repeat=many)]
        some = [[draw.randrange(2) == 1 for _ in range(many)] for _ in range(10)]
        return some + [[], [True] * many, [False] * (many - 1) + [True], [True] * (many - 1)]

    def reopened(self, disk, kept, states, expected):
        """Power comes back to a copy of the disk; what is found must be one of the states of these numbers."""
        disk = copy.deepcopy(disk)
        disk.power(kept)
        store = Store(disk)
        self.assertIn(store.commits, expected)
        self.assertEqual(map_of(store), states[store.commits])
        check_tree(self, store.tree.root, store.tree.pages)
        return disk, store

    def cut(self, disk, store, changes, operations):
        """True if power fails in the commit, which then changes nothing in the store."""
        before = store.commits, store.tree.root, dict(store.tree.pages)
        disk.fail_after(operations)
        try:
            store.commit(changes)
        except PowerOff:
            self.assertEqual((store.commits, store.tree.root, store.tree.pages), before)
            return True
        disk.fail_after(10 ** 6)
        return False

    def each_cut(self, seed, row):
        """Every cut of every commit of the row; after each of them the row goes on on a copy."""
        draw = random.Random(seed)
        states = [{}]
        for changes in row:
            states.append(changed_map(states[-1], changes))
        disk = Disk(600)
        Store(disk)
        for number, changes in enumerate(row):
            pages = self.pages_of(disk, changes)
            for operations in range(pages + 3):
                broken = copy.deepcopy(disk)
                self.assertTrue(self.cut(broken, Store(broken), changes, operations))
                self.assertEqual(broken.pending(), operations if operations <= pages else operations - pages - 1)
                for kept in self.subsets(draw, broken.pending()):
                    # Only at the last sync does a head wait, and then it waits alone.
                    arrives = operations == pages + 2 and kept[:1] == [True]
                    after, store = self.reopened(broken, kept, states, [number + arrives])
                    self.goes_on(after, store, row, states, draw)
            store = Store(disk)
            self.assertFalse(self.cut(disk, store, changes, pages + 3))
            disk.power([])
            self.assertEqual((Store(disk).commits, map_of(Store(disk))), (number + 1, states[number + 1]))

    def pages_of(self, disk, changes):
        """How many pages the commit would write."""
        trial = copy.deepcopy(disk)
        Store(trial).commit(changes)
        return trial.counts()[0] - disk.counts()[0] - 1

    def goes_on(self, disk, store, row, states, draw):
        """The commits that are left are made on this disk; power may fail again, and is then found by point [16]."""
        for number in range(store.commits, min(store.commits + 2, len(row))):
            if draw.randrange(3) == 0 and self.cut(disk, store, row[number], draw.randrange(12)):
                kept = [draw.randrange(2) == 1 for _ in range(disk.pending())]
                self.reopened(disk, kept, states, [number, number + 1])
                return
            if store.commits == number:
                store.commit(row[number])
            self.assertEqual(map_of(Store(disk)), states[number + 1])

    def test_a_row_of_small_commits(self):
        self.each_cut(1, [put(1), put(2, 3), [], away(1), put(5, 6), [(k(2), ("x",))], away(9), put(4)])

    def test_a_row_that_takes_all_away(self):
        self.each_cut(2, [put(1, 2, 3, 4, 5, 6), away(1, 2, 3, 4, 5, 6), put(1), away(1), []])

    def test_drawn_rows(self):
        for seed in range(4):
            draw = random.Random(seed)
            row, present = [], {}
            for _ in range(4):
                row.append(drawn_changes(draw, present, draw.randrange(12), draw.choice((0, 1, 3))))
                present = changed_map(present, row[-1])
            self.each_cut(seed, row)

    def test_the_head_that_counts_and_its_pages_are_never_written_over(self):
        draw = random.Random(5)
        disk, present = Recorder(300), {}
        store = Store(disk)
        for _ in range(30):
            changes = drawn_changes(draw, present, draw.randrange(25), 2)
            kept = {found(disk)[0]: None, **store.tree.pages}
            disk.made.clear()
            store.commit(changes)
            present = changed_map(present, changes)
            self.assertEqual([made[0] for made in disk.made if made != "sync" and made[0] in kept], [])

    def test_a_commit_without_power(self):
        disk = Recorder(100)
        store = Store(disk)
        store.commit(put(1))
        disk.fail_after(0)
        for changes in ([], put(2)):
            disk.made.clear()
            with self.assertRaises(PowerOff):
                store.commit(changes)
            self.assertEqual((store.commits, map_of(store), disk.made, disk.losses()), (1, dict(put(1)), [], 1))

    def test_writes_that_were_made_stay(self):
        disk = Recorder(100)
        store = Store(disk)
        disk.fail_after(2)
        with self.assertRaises(PowerOff):
            store.commit(put(1))
        self.assertEqual((disk.pending(), disk.counts(), disk.read(2)), (0, (2, 2), slow_page(("leaf", tuple(put(1))))))
        self.assertEqual(found(disk), (0, 0, None))

    def test_many_losses_one_after_another(self):
        for seed in range(15):
            draw = random.Random(seed)
            disk, present, commits = Disk(200), {}, 0
            store = self.opened(draw, disk)
            for _ in range(30):
                changes = drawn_changes(draw, present, draw.randrange(10), draw.choice((0, 1, 6)))
                after = changed_map(present, changes)
                if self.cut(disk, store, changes, draw.randrange(14)):
                    disk.power([draw.randrange(2) == 1 for _ in range(disk.pending())])
                    store = self.opened(draw, disk)
                    self.assertIn(store.commits, (commits, commits + 1))
                else:
                    self.assertEqual(store.commits, commits + 1)
                present = after if store.commits > commits else present
                commits = store.commits
                self.assertEqual(map_of(store), present)
            self.assertGreater(disk.losses(), 0)
            self.assertGreater(commits, 5)

    def opened(self, draw, disk):
        """A store of the disk, in whose opening power may fail many times."""
        while True:
            disk.fail_after(draw.randrange(4))
            try:
                store = Store(disk)
            except PowerOff:
                disk.power([draw.randrange(2) == 1 for _ in range(disk.pending())])
                continue
            disk.fail_after(10 ** 6)
            return store

    def test_what_was_found_is_found_again(self):
        # A commit that PowerOff cut off, and that an opening found, is found by all later ones.
        disk = Disk(100)
        store = Store(disk)
        disk.fail_after(3)
        with self.assertRaises(PowerOff):
            store.commit(put(1))
        disk.power([True])
        self.assertEqual((Store(disk).commits, map_of(Store(disk))), (1, dict(put(1))))
        for kept in ([], [False] * 5, [True] * 5):
            disk.power(kept)
            self.assertEqual((Store(disk).commits, map_of(Store(disk))), (1, dict(put(1))))
        store = Store(disk)
        disk.fail_after(3)
        with self.assertRaises(PowerOff):
            store.commit(put(2))
        disk.power([False])
        self.assertEqual((Store(disk).commits, map_of(Store(disk))), (1, dict(put(1))))


class LongestEntries(unittest.TestCase):
    """Points [7] and [9]: rows and entries of indexes with the longest keys and values are stored and found."""

    def test_rows_with_the_longest_keys_and_values(self):
        names = ["".join(letters) for letters in itertools.product("abcdef", repeat=3)][:40]
        rows = {slow_key((2, "tttttt", name * 2, name * 2)): (name * 2,) * 4 for name in names}
        entries = {slow_key((3, "tttttt", "iiiiii") + (name * 2,) * 4): () for name in names}
        changes = sorted({**rows, **entries}.items())
        disk = Disk(600)
        store = Store(disk)
        store.commit(changes)
        self.assertEqual(Store(disk).tree.scan(EVERYTHING), changes)
        self.assertEqual([store.tree.get(key) for key, _ in changes], [value for _, value in changes])


if __name__ == "__main__":
    unittest.main()
