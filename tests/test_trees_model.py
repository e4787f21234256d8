import random
import unittest

import model
from trothbase.errors import MissingPage
from trothbase.names import Registry
from trothbase.trees import Tree, empty, missing

VALUES = [("a",), ("b", 1), ("b", True), False, 0, "", (), (1, "done")]


class ModelTest(unittest.TestCase):
    """Trees after many changes, compared with those of a second making."""

    def setUp(self):
        self.registry = Registry()
        self.chance = random.Random(20)
        self.page = ("leaf", ())
        self.tree = empty(self.registry)

    def key(self, wide):
        table = self.chance.choice(["t", "ta", "u"])
        number = self.chance.randrange(-wide, wide)
        return self.chance.choice([(1, table, number), (1, table, str(number)), (2, number), (1, table, 0, number)])

    def some_changes(self, many, wide, taken):
        keys = {self.key(wide) for _ in range(many)}
        return [(key, None if self.chance.random() < taken else self.chance.choice(VALUES)) for key in keys]

    def change(self, changes):
        places = model.sorted_keys([key for key, _ in changes])
        table = dict(changes)
        changes = tuple((key, table[key]) for key in places)
        before = Tree(self.registry, self.tree.root, self.tree.pages())
        after = before.changed(changes)
        page, visited = model.changed(self.page, changes)
        pages = {}
        self.assertEqual(after.root, model.named(self.registry, page, pages))
        self.assertEqual(before.visited(), model.names_of(self.registry, visited))
        self.assertEqual(after.visited(), [])
        self.assertEqual({name: after.pages()[name] for name in pages}, pages)
        self.assertTrue(set(before.pages()) <= set(after.pages()))
        self.check_enough(before, after, changes)
        self.page = page
        self.tree = after

    def check_enough(self, before, after, changes):
        """The visited pages are enough, but for an old one that becomes the root."""
        enough = {name: before.pages()[name] for name in before.visited()}
        again = Tree(self.registry, before.root, enough)
        try:
            self.assertEqual(again.changed(changes).root, after.root)
        except MissingPage:
            self.assertIn(after.root, before.pages())
            self.assertNotIn(after.root, enough)
        self.assertEqual(again.visited(), before.visited())

    def check_reads(self):
        entries = model.entries_of(self.page)
        table = dict(entries)
        for _ in range(4):
            low, high = model.sorted_keys([self.key(40), self.key(40) + (1,)])
            tree = Tree(self.registry, self.tree.root, self.tree.pages())
            self.assertEqual(tree.get(low), table.get(low))
            visited = model.visited_between(self.page, low, None)
            self.assertEqual(tree.visited(), model.names_of(self.registry, visited))
            tree = Tree(self.registry, self.tree.root, self.tree.pages())
            there = [(key, table[key]) for key in model.sorted_keys(table)
                     if not model.is_before(key, low) and model.is_before(key, high)]
            self.assertEqual(tree.scan(low, high), there)
            visited = model.visited_between(self.page, low, high)
            self.assertEqual(tree.visited(), model.names_of(self.registry, visited))
        self.assertEqual(self.tree.scan((), (9,)), entries)

    def check_missing(self):
        pages = model.beneath(self.tree.pages(), self.tree.root)
        gone = {name for name in pages if self.chance.random() < 0.2}
        part = {name: page for name, page in self.tree.pages().items() if name not in gone}
        told, waiting = set(), [self.tree.root]
        while waiting:
            name = waiting.pop()
            if name in gone:
                told.add(name)
            elif pages[name][0] == "node":
                waiting += [below for _, below in pages[name][1]]
        self.assertEqual(missing(self.registry, self.tree.root, part), sorted(told))

    def rounds(self, many, size, wide, taken):
        for _ in range(many):
            self.change(self.some_changes(size, wide, taken))
            self.check_reads()
            self.check_missing()

    def test_small_trees(self):
        self.rounds(60, 3, 6, 0.4)

    def test_many_small_changes(self):
        self.rounds(60, 6, 60, 0.2)

    def test_large_changes(self):
        self.rounds(6, 250, 100, 0.1)
        self.rounds(12, 150, 100, 0.9)

    def test_growing_and_shrinking_to_nothing(self):
        for size in [10, 40, 100]:
            self.rounds(3, size, 50, 0.0)
            while model.entries_of(self.page):
                keys = [key for key, _ in model.entries_of(self.page)]
                part = self.chance.sample(keys, max(1, len(keys) // 3))
                self.change([(key, None) for key in part])
                self.check_reads()
            self.assertEqual(self.tree.root, empty(self.registry).root)

    def test_taken_away_from_one_end(self):
        for side in [0, 1]:
            self.change([((1, "t", at), (at,)) for at in range(300)])
            keys = [key for key, _ in model.entries_of(self.page)]
            while keys:
                part, keys = (keys[:17], keys[17:]) if side else (keys[-17:], keys[:-17])
                self.change([(key, None) for key in part])
                self.check_missing()
            self.assertEqual(self.tree.root, empty(self.registry).root)

    def test_the_root_hangs_on_nothing_but_the_changes(self):
        other = Registry()
        other.name("something else ahead")
        changes = tuple(((1, "t", at), (at,)) for at in range(80))
        first = empty(self.registry).changed(changes)
        second = empty(other).changed(changes)
        third = empty(self.registry).changed(changes)
        self.assertEqual(first.root, third.root)
        self.assertNotEqual(first.root, second.root)
        self.assertEqual(first.scan((), (9,)), second.scan((), (9,)))


if __name__ == "__main__":
    unittest.main()
