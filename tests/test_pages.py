import random
import unittest

import model
from test_names import STRANGE, nested
from trothbase.trees import is_page, order

KEY = (1, "t", 5)
ENTRY = (KEY, ("v",))
CHILD = (KEY, 3)


def ascending(many):
    return tuple((1, "t", at) for at in range(many))


class OrderTest(unittest.TestCase):
    def check_ascending(self, keys):
        for at, key in enumerate(keys):
            self.assertIsInstance(order(key), tuple)
            self.assertTrue(order(key) == order(key))
            for other in keys[at + 1:]:
                self.assertTrue(order(key) < order(other), (key, other))
                self.assertFalse(order(other) < order(key), (key, other))
                self.assertFalse(order(other) == order(key), (key, other))

    def test_keys_that_begin_others(self):
        self.check_ascending([(), (1,), (1, "t"), (1, "t", -5), (1, "t", 5), (1, "t", "a"), (1, "t ", 0), (1, "u")])

    def test_integers_by_size(self):
        big = 10 ** 29
        self.check_ascending([(1, at) for at in [-big - 1, -big, -10, -9, -1, 0, 1, 2, 9, 10, 11, 100, big, big + 1]])

    def test_integers_before_strings(self):
        self.check_ascending([(1, -3), (1, 0), (1, 10 ** 29), (1, ""), (1, " "), (1, "-5"), (1, "0"), (1, "a")])
        self.check_ascending([(3, 5, 0), (3, 5, ""), (3, "5"), (3, "5", 1)])

    def test_strings_by_characters(self):
        texts = ["", " ", " a", "!", "A", "Z", "a", "a ", "a a", "aa", "aaa", "ab", "b", "ba", "~"]
        self.check_ascending([(1, text) for text in texts])
        self.check_ascending([(1, text, 0) for text in texts])

    def test_the_first_part(self):
        self.check_ascending([(0, "z"), (1, "a"), (2, 1000), (2, 9999), (3, 0), (3, 9)])

    def test_against_a_comparison_part_by_part(self):
        chance = random.Random(5)
        parts = [-10, -1, 0, 1, 10 ** 29, "", " ", "a", "ab", "b"]
        keys = {tuple(chance.choice(parts) for _ in range(chance.randrange(4))) for _ in range(300)}
        self.check_ascending(model.sorted_keys(keys))


class IsPageTest(unittest.TestCase):
    def check(self, right, values):
        for value in values:
            self.assertIs(is_page(value), right, value)

    def test_leaves(self):
        entries = tuple((key, ("v",)) for key in ascending(6))
        self.check(True, [("leaf", entries[:many]) for many in range(7)])
        self.check(True, [("leaf", ((KEY, value),)) for value in [None, False, True, 0, "", (), ("a", (1, None))]])
        self.check(True, [("leaf", ((key, 1),)) for key in [(), (9,), ("a",), (-5, "", 10 ** 59), (1, "\u20ac")]])

    def test_nodes(self):
        children = tuple((key, at + 1) for at, key in enumerate(ascending(6)))
        self.check(True, [("node", children[:many]) for many in range(1, 7)])
        self.check(True, [("node", ((key, 1),)) for key in [(), (9,), ("a",), (-5, "", 10 ** 59)]])
        self.check(True, [("node", ((KEY, name),)) for name in [1, 2, 10 ** 60 - 1]])

    def test_that_keys_ascend_is_not_looked_at(self):
        self.check(True, [("leaf", (ENTRY, ENTRY)), ("node", (CHILD, CHILD))])
        self.check(True, [("leaf", (((2,), 0), ((1,), 0))), ("node", (((2,), 1), ((1,), 1)))])

    def test_too_many_or_too_few(self):
        self.check(False, [
            ("leaf", (ENTRY,) * 7), ("node", (CHILD,) * 7), ("node", ()), ("leaf",), ("node",), (), ("leaf", (), ()),
            ("leaf", (ENTRY,), None), ("node", (CHILD,), (CHILD,)), ("node", (CHILD,), 0),
        ])

    def test_wrong_words(self):
        self.check(False, [
            ("leafs", ()), ("Leaf", ()), ("", ()), (None, ()), (0, ()), (("leaf",), ()), ("Node", (CHILD,)),
            (True, (CHILD,)), ((), "leaf"), "leaf", "node", ("leaf", "node"),
        ])

    def test_wrong_parts(self):
        for wrong in [None, True, 0, 1, "", "ab", "entry", ("ab", "cd"), (1, 2), ((),), (None,), ((KEY,),)]:
            self.check(False, [("leaf", wrong), ("node", wrong)])
        self.check(False, [
            ("leaf", (ENTRY, (KEY,))), ("leaf", (ENTRY, (KEY, 1, 2))), ("leaf", (ENTRY, ())), ("leaf", ENTRY),
            ("node", (CHILD, (KEY,))), ("node", (CHILD, (KEY, 1, 2))), ("node", (CHILD, ())), ("node", CHILD),
            ("leaf", (("ab", 1),)), ("node", (("ab", 1),)), ("leaf", ("kv",)), ("node", ("kv",)),
        ])

    def test_wrong_keys(self):
        for wrong in [None, True, 5, "key", (None,), (1, None), (True,), (1, "t", False), (1, ("t",)), (1, (), 2)]:
            self.check(False, [("leaf", ((wrong, 1),)), ("node", ((wrong, 1),))])
            self.check(False, [("leaf", (ENTRY, (wrong, 1))), ("node", (CHILD, (wrong, 1)))])

    def test_wrong_names_of_children(self):
        for wrong in [None, True, False, 0, -1, "1", (), (1,), -(10 ** 59), 10 ** 60]:
            self.check(False, [("node", ((KEY, wrong),)), ("node", (CHILD, (KEY, wrong)))])

    def test_what_is_not_plain(self):
        self.check(True, [("leaf", ((KEY, nested(27)),))])
        self.check(False, [("leaf", ((KEY, nested(28)),)), ("leaf", ((KEY, nested(50000)),))])
        self.check(False, [("leaf", ((KEY, 10 ** 60),)), ("leaf", (((10 ** 60,), 1),)), ("node", (((10 ** 60,), 1),))])
        self.check(False, [["leaf", ()], ("leaf", []), ("leaf", [ENTRY]), ("node", [CHILD]), ("leaf", (list(ENTRY),))])
        for wrong in STRANGE:
            for value in [
                wrong, (wrong, ()), ("leaf", wrong), ("node", wrong), ("leaf", (wrong,)), ("leaf", ((KEY, wrong),)),
                ("leaf", ((wrong, 1),)), ("leaf", (((wrong,), 1),)), ("node", ((KEY, wrong),)),
                ("node", (((1, wrong), 1),)), ("leaf", (), wrong), ("leaf", ((KEY, ((wrong,),)),)),
            ]:
                self.assertIs(is_page(value), False)


if __name__ == "__main__":
    unittest.main()
