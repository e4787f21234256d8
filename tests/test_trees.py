import unittest

from trothbase.errors import MissingPage, TrothError
from trothbase.names import Registry
from trothbase.trees import Tree, empty, is_page, missing


def key(at):
    return (1, "t", at)


def entries(*numbers):
    return tuple((key(at), ("v", at)) for at in numbers)


def away(*numbers):
    return tuple((key(at), None) for at in numbers)


class TreeTest(unittest.TestCase):
    def setUp(self):
        self.registry = Registry()

    def name(self, page):
        return self.registry.name(page)

    def leaf(self, *numbers):
        return self.name(("leaf", entries(*numbers)))

    def node(self, *children):
        """The name of a node with pairs of a number and a name of a child."""
        return self.name(("node", tuple((key(at), name) for at, name in children)))

    def made(self, *numbers):
        """A new tree with the entries of these numbers, nothing visited."""
        return empty(self.registry).changed(entries(*numbers))

    def without(self, tree, *names):
        """The tree again, without some of its pages."""
        pages = {name: page for name, page in tree.pages().items() if name not in names}
        return Tree(self.registry, tree.root, pages)


class EmptyTest(TreeTest):
    def test_empty(self):
        tree = empty(self.registry)
        self.assertEqual(tree.root, self.name(("leaf", ())))
        self.assertEqual(tree.pages(), {tree.root: ("leaf", ())})
        self.assertEqual(tree.visited(), [])
        self.assertIsNone(tree.get((1, "t", 1)))
        self.assertEqual(tree.scan((0,), (3, 9)), [])
        self.assertEqual(tree.visited(), [tree.root])

    def test_each_is_a_tree_of_its_own(self):
        first, second = empty(self.registry), empty(self.registry)
        self.assertEqual(first.root, second.root)
        first.get(key(1))
        self.assertEqual(second.visited(), [])

    def test_no_changes(self):
        tree = empty(self.registry)
        after = tree.changed(())
        self.assertEqual(after.root, tree.root)
        self.assertEqual(tree.visited(), [tree.root])
        self.assertEqual(after.visited(), [])
        self.assertEqual(tree.changed(away(1, 2)).root, tree.root)


class CutTest(TreeTest):
    def test_one_leaf(self):
        for many in range(7):
            tree = self.made(*range(many))
            self.assertEqual(tree.root, self.leaf(*range(many)))
            self.assertEqual(tree.pages()[tree.root], ("leaf", entries(*range(many))))

    def test_seven_entries(self):
        tree = self.made(*range(7))
        self.assertEqual(tree.root, self.node((0, self.leaf(0, 1, 2, 3)), (4, self.leaf(4, 5, 6))))

    def test_thirteen_entries_are_five_four_and_four(self):
        tree = self.made(*range(13))
        children = (0, self.leaf(*range(5))), (5, self.leaf(*range(5, 9))), (9, self.leaf(*range(9, 13)))
        self.assertEqual(tree.root, self.node(*children))

    def test_thirty_six_entries_are_one_node(self):
        tree = self.made(*range(36))
        children = [(at, self.leaf(*range(at, at + 6))) for at in range(0, 36, 6)]
        self.assertEqual(tree.root, self.node(*children))

    def test_thirty_seven_entries_are_two_nodes(self):
        tree = self.made(*range(37))
        starts = [0, 6, 12, 17, 22, 27, 32, 37]
        children = [(low, self.leaf(*range(low, high))) for low, high in zip(starts, starts[1:])]
        self.assertEqual(tree.root, self.node((0, self.node(*children[:4])), (22, self.node(*children[4:]))))

    def test_three_levels_at_once(self):
        tree = self.made(*range(217))
        level = [tree.root]
        sizes = []
        while level:
            parts = [tree.pages()[name] for name in level]
            sizes.append([len(page[1]) for page in parts])
            level = [below for page in parts if page[0] == "node" for _, below in page[1]]
        self.assertEqual(sizes[:3], [[2], [4, 3], [6, 6, 5, 5, 5, 5, 5]])
        self.assertEqual(sizes[3], [6] * 32 + [5] * 5)
        self.assertEqual(len(sizes), 4)

    def test_all_pages_have_the_form_and_the_names_of_pages(self):
        pages = self.made(*range(100)).pages()
        for name, page in pages.items():
            self.assertTrue(is_page(page))
            self.assertEqual(self.name(page), name)


class ChangeTest(TreeTest):
    def test_an_entry_for_a_full_leaf(self):
        before = self.made(*range(0, 26, 2))
        tree = before.changed(entries(7))
        children = (0, self.leaf(0, 2, 4, 6, 7, 8)), (10, self.leaf(10, 12, 14, 16)), (18, self.leaf(18, 20, 22, 24))
        self.assertEqual(tree.root, self.node(*children))
        tree = tree.changed(entries(5))
        children = ((0, self.leaf(0, 2, 4, 5)), (6, self.leaf(6, 7, 8))) + children[1:]
        self.assertEqual(tree.root, self.node(*children))

    def test_an_entry_between_two_leaves_is_of_the_first_one(self):
        tree = self.made(*range(0, 26, 2)).changed(entries(9))
        self.assertEqual(tree.pages()[tree.root][1][0], (key(0), self.leaf(0, 2, 4, 6, 8, 9)))

    def test_an_entry_with_the_first_key_of_a_leaf_is_of_this_one(self):
        change = ((key(10), "new"),)
        tree = self.made(*range(0, 26, 2)).changed(change)
        leaf = self.name(("leaf", change + entries(12, 14, 16)))
        self.assertEqual(tree.pages()[tree.root][1][1], (key(10), leaf))

    def test_lesser_and_greater_entries(self):
        tree = self.made(*range(0, 26, 2)).changed(entries(-5, 99))
        children = (-5, self.leaf(-5, 0, 2, 4, 6, 8)), (10, self.leaf(10, 12, 14, 16))
        self.assertEqual(tree.root, self.node(*children, (18, self.leaf(18, 20, 22, 24, 99))))

    def test_a_lesser_entry_changes_the_first_keys_above(self):
        tree = self.made(*range(37)).changed(entries(-1))
        nodes = tree.pages()[tree.root][1]
        self.assertEqual([first for first, _ in nodes], [key(-1), key(22)])
        first, second = [[own for own, _ in tree.pages()[name][1]] for _, name in nodes]
        self.assertEqual(first, [key(-1), key(3), key(6), key(12), key(17)])
        self.assertEqual(second, [key(22), key(27), key(32)])

    def test_the_first_entry_of_a_leaf_taken_away(self):
        tree = self.made(*range(13)).changed(away(5))
        children = (0, self.leaf(*range(5))), (6, self.leaf(6, 7, 8)), (9, self.leaf(*range(9, 13)))
        self.assertEqual(tree.root, self.node(*children))

    def test_leaves_are_not_joined(self):
        tree = self.made(*range(13)).changed(away(1, 2, 3, 4, 6, 7, 8, 10, 11, 12))
        self.assertEqual(tree.root, self.node((0, self.leaf(0)), (5, self.leaf(5)), (9, self.leaf(9))))

    def test_an_empty_leaf_goes(self):
        tree = self.made(*range(13)).changed(away(5, 6, 7, 8))
        self.assertEqual(tree.root, self.node((0, self.leaf(*range(5))), (9, self.leaf(*range(9, 13)))))

    def test_all_entries_taken_away(self):
        for many in [1, 6, 7, 13, 40, 250]:
            tree = self.made(*range(many)).changed(away(*range(many)))
            self.assertEqual(tree.root, empty(self.registry).root)
            self.assertEqual(tree.scan((0,), (3, 9)), [])

    def test_all_entries_replaced_by_others(self):
        tree = self.made(0, 1, 2).changed(((key(0), None), (key(1), None), (key(2), None)) + entries(7))
        self.assertEqual(tree.root, self.leaf(7))

    def test_an_entry_that_is_not_there_taken_away(self):
        tree = self.made(*range(0, 26, 2))
        self.assertEqual(tree.changed(away(-1, 3, 99)).root, tree.root)

    def test_the_same_value_again(self):
        tree = self.made(*range(13))
        self.assertEqual(tree.changed(entries(3, 7)).root, tree.root)

    def test_values_that_differ_in_kinds_alone(self):
        first = empty(self.registry).changed(((key(1), (1,)),))
        second = first.changed(((key(1), (True,)),))
        self.assertNotEqual(first.root, second.root)
        self.assertIs(second.get(key(1))[0], True)
        self.assertIs(type(first.get(key(1))[0]), int)

    def test_values_that_are_false_or_empty(self):
        values = [False, 0, "", (), (None,)]
        tree = empty(self.registry).changed(tuple((key(at), value) for at, value in enumerate(values)))
        for at, value in enumerate(values):
            self.assertEqual(tree.get(key(at)), value)
            self.assertIs(type(tree.get(key(at))), type(value))
        self.assertEqual([value for _, value in tree.scan(key(0), key(9))], values)
        again = tree.changed(((key(0), None), (key(3), 0)))
        self.assertEqual([value for _, value in again.scan(key(0), key(9))], [0, "", 0, (None,)])

    def test_an_earlier_tree_stays(self):
        before = self.made(*range(20))
        pages = before.pages()
        root = before.root
        before.changed(away(*range(20))).changed(entries(1))
        before.changed(entries(30))
        self.assertEqual(before.root, root)
        self.assertEqual(before.pages(), pages)
        self.assertEqual(before.scan(key(0), key(99)), list(entries(*range(20))))

    def test_the_tree_after_changes_has_all_pages(self):
        before = self.made(*range(50))
        strange = self.leaf(1000)
        pages = before.pages()
        pages[strange] = ("leaf", entries(1000))
        after = Tree(self.registry, before.root, pages).changed(entries(60))
        for name, page in pages.items():
            self.assertEqual(after.pages()[name], page)
        self.assertEqual(missing(self.registry, after.root, after.pages()), [])
        self.assertEqual(after.visited(), [])


class RootTest(TreeTest):
    """What becomes the root where entries are taken away."""

    def test_the_only_leaf_that_is_left(self):
        tree = self.made(*range(7))
        first, second = self.leaf(0, 1, 2, 3), self.leaf(4, 5, 6)
        after = tree.changed(away(4, 5, 6))
        self.assertEqual(after.root, first)
        self.assertEqual(tree.visited(), sorted([tree.root, second]))

    def test_the_only_node_that_is_left(self):
        tree = self.made(*range(37))
        last = tree.pages()[tree.root][1][1]
        fresh = Tree(self.registry, tree.root, tree.pages())
        after = fresh.changed(away(*range(22)))
        self.assertEqual((key(22), after.root), last)
        self.assertNotIn(after.root, fresh.visited())
        self.assertEqual(after.visited(), [])

    def test_a_chain_of_nodes_with_one_child(self):
        tree = self.made(*range(37)).changed(away(*range(1, 22)))
        lone = self.node((0, self.leaf(0)))
        self.assertEqual(tree.pages()[tree.root][1][0], (key(0), lone))
        # The node with one child stays, and its child becomes the root.
        fresh = Tree(self.registry, tree.root, tree.pages())
        after = fresh.changed(away(*range(22, 37)))
        self.assertEqual(after.root, self.leaf(0))
        self.assertNotIn(lone, fresh.visited())
        self.assertNotIn(after.root, fresh.visited())
        for lacking in [lone, self.leaf(0)]:
            part = self.without(tree, lacking)
            with self.assertRaises(MissingPage):
                part.changed(away(*range(22, 37)))
            self.assertEqual(part.visited(), fresh.visited())

    def test_a_child_that_becomes_the_root_is_not_there(self):
        tree = self.made(*range(7))
        second = self.leaf(4, 5, 6)
        part = self.without(tree, self.leaf(0, 1, 2, 3))
        pages = part.pages()
        with self.assertRaises(MissingPage):
            part.changed(away(4, 5, 6))
        self.assertEqual(part.visited(), sorted([tree.root, second]))
        self.assertEqual(part.pages(), pages)

    def test_without_changes(self):
        leaf = ("leaf", entries(0))
        lone = ("node", ((key(0), self.name(leaf)),))
        pages = {self.name(leaf): leaf, self.name(lone): lone}
        tree = Tree(self.registry, self.name(lone), pages)
        self.assertEqual(tree.changed(()).root, self.name(leaf))
        self.assertEqual(tree.visited(), [self.name(lone)])
        with self.assertRaises(MissingPage):
            Tree(self.registry, self.name(lone), {self.name(lone): lone}).changed(())


class ReadTest(TreeTest):
    def setUp(self):
        TreeTest.setUp(self)
        self.tree = self.made(*range(0, 100, 2))
        self.tree = Tree(self.registry, self.tree.root, self.tree.pages())

    def test_get(self):
        for at in range(-1, 101):
            value = ("v", at) if at % 2 == 0 and at < 100 else None
            self.assertEqual(self.tree.get(key(at)), value, at)
        self.assertIsNone(self.tree.get((0, "t")))
        self.assertIsNone(self.tree.get((1, "t")))
        self.assertIsNone(self.tree.get((1, "t", 2, 0)))
        self.assertIsNone(self.tree.get((3, 0)))
        self.assertIsNone(self.tree.get((1, "t", "2")))

    def test_scan_between_keys_that_are_there_or_not(self):
        for low in range(-2, 102):
            for high in range(low + 1, 103):
                there = [at for at in range(0, 100, 2) if low <= at < high]
                self.assertEqual(self.tree.scan(key(low), key(high)), list(entries(*there)), (low, high))

    def test_scan_from_the_beginning_of_keys(self):
        every = list(entries(*range(0, 100, 2)))
        self.assertEqual(self.tree.scan((1, "t"), (1, "t ")), every)
        self.assertEqual(self.tree.scan((), (9,)), every)
        self.assertEqual(self.tree.scan((1, "t"), key(0)), [])
        self.assertEqual(self.tree.scan((1, "t"), key(1)), every[:1])
        self.assertEqual(self.tree.scan(key(98), (1, "t", "")), every[-1:])
        self.assertEqual(self.tree.scan(key(99), (3,)), [])
        self.assertEqual(self.tree.scan((1, "s"), (1, "t")), [])
        self.assertEqual(self.tree.scan((1, "t "), (1, "u")), [])

    def test_scan_with_keys_of_all_kinds(self):
        keys = [
            (0, "a"), (0, "ab"), (1, "a", -10 ** 29), (1, "a", -2), (1, "a", 0), (1, "a", 0, "x"), (1, "a", 10),
            (1, "a", ""), (1, "a", "a"), (1, "a", "aa"), (1, "ab", 1), (1, "b", 1), (2, 1000), (2, 9999), (3, 0), (3, 1),
        ]
        tree = empty(self.registry).changed(tuple((own, own) for own in keys))
        for at, low in enumerate(keys):
            self.assertEqual(tree.get(low), low)
            for where in range(at + 1, len(keys)):
                expected = [(own, own) for own in keys[at:where]]
                self.assertEqual(tree.scan(low, keys[where]), expected)
        self.assertEqual([own for own, _ in tree.scan((1, "a"), (1, "a "))], keys[2:10])


class FiftyTest(TreeTest):
    """50 entries: a root with two nodes of 5 and 4 leaves, of 6 or 5 entries."""

    def setUp(self):
        TreeTest.setUp(self)
        self.tree = self.made(*range(50))
        pages = self.tree.pages()
        self.nodes = [name for _, name in pages[self.tree.root][1]]
        self.leaves = [[name for _, name in pages[node][1]] for node in self.nodes]
        self.starts = [first[2] for node in self.nodes for first, _ in pages[node][1]]

    def fresh(self):
        return Tree(self.registry, self.tree.root, self.tree.pages())

    def check(self, visited, *names):
        self.assertEqual(visited, sorted([self.tree.root, *names]))


class VisitTest(FiftyTest):
    def test_the_tree_of_these_tests(self):
        self.assertEqual([len(leaves) for leaves in self.leaves], [5, 4])
        self.assertEqual(self.starts, [0, 6, 12, 18, 24, 30, 35, 40, 45])

    def test_nothing_at_first(self):
        self.assertEqual(self.tree.visited(), [])
        self.assertEqual(self.fresh().visited(), [])

    def test_get(self):
        tree = self.fresh()
        tree.get(key(5))
        self.check(tree.visited(), self.nodes[0], self.leaves[0][0])
        tree.get(key(-7))
        self.check(tree.visited(), self.nodes[0], self.leaves[0][0])
        tree.get(key(30))
        self.check(tree.visited(), *self.nodes, self.leaves[0][0], self.leaves[1][0])
        tree.get((3, 1))
        self.check(tree.visited(), *self.nodes, self.leaves[0][0], self.leaves[1][0], self.leaves[1][3])

    def test_get_of_the_last_key_before_a_child(self):
        tree = self.fresh()
        tree.get((1, "t", 29, "x"))
        self.check(tree.visited(), self.nodes[0], self.leaves[0][4])

    def test_scan(self):
        tree = self.fresh()
        tree.scan(key(12), key(18))
        self.check(tree.visited(), self.nodes[0], self.leaves[0][2])
        tree = self.fresh()
        tree.scan(key(11), (1, "t", 18, 0))
        self.check(tree.visited(), self.nodes[0], *self.leaves[0][1:4])
        tree = self.fresh()
        tree.scan(key(17), key(41))
        self.check(tree.visited(), *self.nodes, *self.leaves[0][2:], *self.leaves[1][:3])
        tree = self.fresh()
        tree.scan((1, "t", 29, 0), key(30))
        self.check(tree.visited(), self.nodes[0], self.leaves[0][4])

    def test_scan_outside_of_all_keys(self):
        tree = self.fresh()
        tree.scan((0,), (1,))
        self.check(tree.visited(), self.nodes[0], self.leaves[0][0])
        tree = self.fresh()
        tree.scan((2,), (3,))
        self.check(tree.visited(), self.nodes[1], self.leaves[1][3])
        tree = self.fresh()
        tree.scan((), (9,))
        self.check(tree.visited(), *self.nodes, *self.leaves[0], *self.leaves[1])

    def test_changed_without_any_change(self):
        tree = self.fresh()
        self.assertEqual(tree.changed(()).root, tree.root)
        self.check(tree.visited())

    def test_changed(self):
        tree = self.fresh()
        after = tree.changed(entries(7))
        self.check(tree.visited(), self.nodes[0], self.leaves[0][1])
        self.assertEqual(after.visited(), [])
        after.get(key(7))
        self.check(tree.visited(), self.nodes[0], self.leaves[0][1])
        tree = self.fresh()
        tree.changed(away(-3) + entries(35, 99))
        self.check(tree.visited(), *self.nodes, self.leaves[0][0], self.leaves[1][1], self.leaves[1][3])

    def test_changes_of_what_is_not_there_visit_as_others_do(self):
        tree = self.fresh()
        tree.changed((((1, "t", 29, "x"), None),))
        self.check(tree.visited(), self.nodes[0], self.leaves[0][4])

    def test_the_visited_pages_are_enough(self):
        tree = self.fresh()
        entry = tree.get(key(33))
        found = tree.scan(key(3), key(8))
        after = tree.changed(entries(51) + away(60)).root
        pages = {name: tree.pages()[name] for name in tree.visited()}
        again = Tree(self.registry, tree.root, pages)
        self.assertEqual(again.get(key(33)), entry)
        self.assertEqual(again.scan(key(3), key(8)), found)
        self.assertEqual(again.changed(entries(51) + away(60)).root, after)
        self.assertEqual(again.visited(), tree.visited())


class MissingTest(FiftyTest):
    def lack(self, *names):
        return self.without(self.tree, *names)

    def test_the_error(self):
        self.assertTrue(issubclass(MissingPage, TrothError))
        tree = Tree(self.registry, self.tree.root, {})
        for ask in [lambda: tree.get(key(1)), lambda: tree.scan((0,), (9,)), lambda: tree.changed(entries(1)),
                    lambda: tree.changed(())]:
            self.assertRaises(MissingPage, ask)
        self.assertEqual(tree.visited(), [])
        self.assertEqual(tree.pages(), {})

    def test_get(self):
        tree = self.lack(self.nodes[1], self.leaves[0][1])
        self.assertRaises(MissingPage, tree.get, key(40))
        self.check(tree.visited())
        self.assertRaises(MissingPage, tree.get, key(6))
        self.check(tree.visited(), self.nodes[0])
        self.assertEqual(tree.get(key(5)), ("v", 5))
        self.check(tree.visited(), self.nodes[0], self.leaves[0][0])

    def test_scan(self):
        tree = self.lack(self.leaves[0][2])
        self.assertRaises(MissingPage, tree.scan, key(0), key(40))
        self.check(tree.visited(), self.nodes[0], *self.leaves[0][:2])
        self.assertEqual(tree.scan(key(0), key(12)), list(entries(*range(12))))
        self.assertEqual(tree.scan(key(18), key(22)), list(entries(*range(18, 22))))

    def test_changed(self):
        tree = self.lack(self.leaves[0][2])
        self.assertRaises(MissingPage, tree.changed, entries(1, 12, 40))
        self.check(tree.visited(), self.nodes[0], self.leaves[0][0])
        self.assertEqual(tree.changed(entries(1, 40)).root, self.tree.changed(entries(1, 40)).root)

    def test_pages_that_are_not_visited_need_not_be_there(self):
        tree = self.lack(self.nodes[1], *self.leaves[0][1:], *self.leaves[1])
        after = tree.changed(((key(2), "new"),))
        self.assertEqual(after.root, self.tree.changed(((key(2), "new"),)).root)
        self.assertEqual(after.get(key(2)), "new")
        self.assertRaises(MissingPage, after.get, key(30))

    def test_an_error_asks_for_no_names(self):
        tree = self.lack(self.leaves[1][3])
        before = self.registry.name("before")
        self.assertRaises(MissingPage, tree.changed, entries(200, 201) + (((1, "u", 1), ("v",)),))
        self.assertRaises(MissingPage, tree.changed, ((key(0), "other"), (key(49), "other")))
        self.assertEqual(self.registry.name("behind"), before + 1)

    def test_missing(self):
        pages = self.tree.pages()
        every = sorted([self.tree.root, *self.nodes, *self.leaves[0], *self.leaves[1]])
        self.assertEqual(missing(self.registry, self.tree.root, pages), [])
        self.assertEqual(missing(self.registry, self.tree.root, {}), [self.tree.root])
        self.assertEqual(missing(self.registry, self.tree.root, {self.tree.root: pages[self.tree.root]}),
                         sorted(self.nodes))
        for name in every:
            part = {own: page for own, page in pages.items() if own != name}
            self.assertEqual(missing(self.registry, self.tree.root, part), [name])

    def test_missing_as_far_as_it_is_told(self):
        pages = self.tree.pages()
        lacking = [self.nodes[0], self.leaves[0][3], self.leaves[1][2], self.leaves[1][0]]
        part = {own: page for own, page in pages.items() if own not in lacking}
        told = sorted([self.nodes[0], self.leaves[1][2], self.leaves[1][0]])
        self.assertEqual(missing(self.registry, self.tree.root, part), told)
        part[self.nodes[0]] = pages[self.nodes[0]]
        self.assertEqual(missing(self.registry, self.tree.root, part), sorted(lacking[1:]))

    def test_missing_with_strange_pages_beside(self):
        pages = self.tree.pages()
        unknown = self.leaf(1234)
        strange = ("node", ((key(0), unknown),))
        pages[self.name(strange)] = strange
        self.assertEqual(missing(self.registry, self.tree.root, pages), [])
        del pages[self.leaves[0][0]]
        self.assertEqual(missing(self.registry, self.tree.root, pages), [self.leaves[0][0]])
        self.assertEqual(missing(self.registry, self.name(strange), pages), [unknown])

    def test_missing_of_the_empty_map(self):
        tree = empty(self.registry)
        self.assertEqual(missing(self.registry, tree.root, tree.pages()), [])
        self.assertEqual(missing(self.registry, tree.root, {}), [tree.root])

    def test_missing_of_a_page_that_tells_its_own_name(self):
        coming = self.registry.name("now") + 1
        page = ("node", ((key(0), coming),))
        self.assertEqual(self.name(page), coming)
        self.assertEqual(missing(self.registry, coming, {coming: page}), [])


class KeptApartTest(TreeTest):
    """No later change to what was given or returned has any effect."""

    def setUp(self):
        TreeTest.setUp(self)
        self.tree = self.made(*range(20))
        self.given = self.tree.pages()
        self.expected = dict(self.given)
        self.own = Tree(self.registry, self.tree.root, self.given)

    def check(self, tree):
        self.assertEqual(tree.pages(), self.expected)
        self.assertEqual(tree.scan((0,), (9,)), list(entries(*range(20))))
        self.assertEqual(tree.get(key(7)), ("v", 7))

    def test_the_dict_that_was_given(self):
        self.given.clear()
        self.check(self.own)
        self.given[self.own.root] = ("leaf", ())
        self.check(self.own)

    def test_the_dict_that_was_given_is_not_modified(self):
        self.own.changed(entries(50, 51))
        self.own.scan((0,), (9,))
        missing(self.registry, self.own.root, self.given)
        self.assertEqual(self.given, self.expected)

    def test_the_dict_of_pages(self):
        self.own.pages().clear()
        self.own.pages()[self.own.root] = ("leaf", ())
        self.check(self.own)

    def test_the_dict_of_pages_of_a_tree_after_changes(self):
        after = self.own.changed(entries(50))
        after.pages().clear()
        self.own.pages().clear()
        self.check(self.own)
        self.assertEqual(after.scan((0,), (9,)), list(entries(*range(20), 50)))

    def test_the_dict_of_the_empty_tree(self):
        tree = empty(self.registry)
        tree.pages().clear()
        self.assertEqual(tree.pages(), {tree.root: ("leaf", ())})

    def test_the_lists(self):
        self.own.scan((0,), (9,)).clear()
        self.own.visited().clear()
        missing(self.registry, self.own.root, {}).append(5)
        self.check(self.own)
        self.assertEqual(len(self.own.visited()), 5)
        self.assertEqual(missing(self.registry, self.own.root, {}), [self.own.root])
        visited = self.own.visited()
        visited.append(-1)
        self.assertNotIn(-1, self.own.visited())


if __name__ == "__main__":
    unittest.main()
