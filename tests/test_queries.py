import unittest

import model
from trothbase.errors import MissingPage
from trothbase.names import Registry
from trothbase.queries import Look
from trothbase.trees import Tree, empty

LOW, HIGH = (1, "t"), (1, "t ")


def key(at):
    return (1, "t", at)


class LookTest(unittest.TestCase):
    def setUp(self):
        self.registry = Registry()

    def tree(self, *numbers):
        changes = tuple((key(at), ("v", at)) for at in numbers)
        return empty(self.registry).changed(changes)

    def without(self, tree, *names):
        pages = {name: page for name, page in tree.pages().items() if name not in names}
        return Tree(self.registry, tree.root, pages)

    def test_no_changes(self):
        tree = self.tree(1, 2, 3)
        look = Look(tree, {})
        self.assertEqual(look.get(key(2)), ("v", 2))
        self.assertIsNone(look.get(key(4)))
        self.assertEqual(look.scan(LOW, HIGH), [(key(at), ("v", at)) for at in (1, 2, 3)])
        self.assertEqual(look.scan(key(2), key(3)), [(key(2), ("v", 2))])
        self.assertEqual(look.scan(key(4), key(9)), [])

    def test_the_empty_tree(self):
        self.assertEqual(Look(empty(self.registry), {}).scan((0,), (4,)), [])
        self.assertIsNone(Look(empty(self.registry), {}).get(key(1)))
        look = Look(empty(self.registry), {key(2): ("b",), key(1): ("a",), key(3): None})
        self.assertEqual(look.scan((0,), (4,)), [(key(1), ("a",)), (key(2), ("b",))])

    def test_changes_that_come_change_and_go(self):
        look = Look(self.tree(1, 3, 5), {key(2): ("new",), key(3): ("other",), key(5): None, key(6): None})
        self.assertEqual(look.get(key(1)), ("v", 1))
        self.assertEqual(look.get(key(2)), ("new",))
        self.assertEqual(look.get(key(3)), ("other",))
        self.assertIsNone(look.get(key(5)))
        self.assertIsNone(look.get(key(6)))
        self.assertIsNone(look.get(key(7)))
        self.assertEqual(look.scan(LOW, HIGH), [(key(1), ("v", 1)), (key(2), ("new",)), (key(3), ("other",))])

    def test_false_and_empty_values_are_there(self):
        for value in [(), 0, False, "", ((),)]:
            look = Look(self.tree(1), {key(1): value, key(2): value})
            for at in (1, 2):
                self.assertEqual(look.get(key(at)), value)
                self.assertIs(type(look.get(key(at))), type(value))
            self.assertEqual(look.scan(LOW, HIGH), [(key(1), value), (key(2), value)])

    def test_the_bounds_of_a_scan(self):
        tree = self.tree(2, 4)
        look = Look(tree, {key(1): (), key(3): (), key(5): (), (0, "t"): (), (2, 1000): ()})
        self.assertEqual([found for found, _ in look.scan(key(1), key(5))], [key(1), key(2), key(3), key(4)])
        self.assertEqual([found for found, _ in look.scan(key(2), key(3))], [key(2)])
        self.assertEqual([found for found, _ in look.scan(key(3), key(4))], [key(3)])
        self.assertEqual([found for found, _ in look.scan((0,), (1,))], [(0, "t")])
        self.assertEqual([found for found, _ in look.scan((1, "t", 5), (4,))], [key(5), (2, 1000)])

    def test_the_order_of_a_scan(self):
        keys = [(1, "t", 7), (1, "t", -7), (1, "t", "7"), (1, "t"), (1, "t", 7, 0), (1, "ta", 0), (1, "s", "z"), (3, 0)]
        for cut in range(len(keys) + 1):
            inside = tuple((found, ()) for found in model.sorted_keys(keys[:cut]))
            look = Look(empty(self.registry).changed(inside), {found: () for found in keys[cut:]})
            self.assertEqual([found for found, _ in look.scan((0,), (4,))], model.sorted_keys(keys))

    def test_a_get_of_what_is_changed_looks_at_no_page(self):
        tree = self.tree(*range(20))
        look = Look(self.without(tree, *tree.pages()), {key(1): ("x",), key(2): None})
        self.assertEqual(look.get(key(1)), ("x",))
        self.assertIsNone(look.get(key(2)))
        with self.assertRaises(MissingPage):
            look.get(key(3))
        known = Look(tree, {key(1): ("x",), key(2): None})
        known.get(key(1))
        known.get(key(2))
        self.assertEqual(tree.visited(), [])
        known.get(key(3))
        self.assertEqual(len(tree.visited()), 2)

    def test_missing_pages(self):
        tree = self.tree(*range(20))
        _, children = tree.pages()[tree.root]
        look = Look(self.without(tree, children[1][1]), {at: () for at in map(key, range(20))})
        with self.assertRaises(MissingPage):
            look.scan(LOW, HIGH)
        first = children[1][0]
        self.assertEqual(len(look.scan(LOW, first)), first[2])
        bare = Look(self.without(tree, children[1][1]), {})
        with self.assertRaises(MissingPage):
            bare.get(first)
        self.assertEqual(bare.get(key(0)), ("v", 0))

    def test_later_changes_have_no_effect(self):
        changes = {key(1): ("x",), key(2): None}
        look = Look(self.tree(2, 3), changes)
        changes[key(1)] = ("y",)
        changes[key(3)] = None
        del changes[key(2)]
        found = look.scan(LOW, HIGH)
        self.assertEqual(found, [(key(1), ("x",)), (key(3), ("v", 3))])
        found.clear()
        self.assertEqual(look.scan(LOW, HIGH), [(key(1), ("x",)), (key(3), ("v", 3))])
        self.assertIsNone(look.get(key(2)))
        self.assertEqual(look.get(key(3)), ("v", 3))

    def test_what_is_given_is_not_modified(self):
        changes = {key(5): None, key(1): ("x",)}
        tree = self.tree(2, 5)
        pages = tree.pages()
        Look(tree, changes).scan(LOW, HIGH)
        self.assertEqual(list(changes.items()), [(key(5), None), (key(1), ("x",))])
        self.assertEqual(tree.pages(), pages)
        self.assertEqual(tree.scan(LOW, HIGH), [(key(2), ("v", 2)), (key(5), ("v", 5))])


if __name__ == "__main__":
    unittest.main()
