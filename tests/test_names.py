import unittest

from trothbase.errors import InvalidArgument
from trothbase.names import Pen, Registry, is_plain, same


def nested(many, inside=None):
    """So many tuples within one another."""
    value = () if inside is None else (inside,)
    for _ in range(many - 1):
        value = (value,)
    return value


class Sly(int):
    """An integer that is equal to everything, and shown as another value."""

    def __eq__(self, other):
        return True

    def __hash__(self):
        return 0

    def __repr__(self):
        return "5"


class Word(str):
    pass


class Hostile:
    """Fails at whatever is asked of it."""

    def __eq__(self, other):
        raise RuntimeError("never compared")

    def __bool__(self):
        raise RuntimeError("never tested")

    def __len__(self):
        raise RuntimeError("never measured")

    def __repr__(self):
        raise RuntimeError("never shown")

    def __hash__(self):
        raise RuntimeError("never hashed")


STRANGE = [
    1.0, 1j, b"a", [], [1], {}, {1: 2}, set(), frozenset(), object(), int, len, Hostile(), Hostile,
    range(2), Sly(5), Word("a"), NotImplemented, ..., float("nan"),
]


class PlainTest(unittest.TestCase):
    def test_plain(self):
        for value in [None, True, False, 0, -1, 7, "", "abc", "\n\u20ac\ud800", (), (1, "a", None, (True, ()))]:
            self.assertIs(is_plain(value), True, value)

    def test_integers_at_the_bound(self):
        for value in [10 ** 60 - 1, 1 - 10 ** 60, 10 ** 59, (10 ** 60 - 1,)]:
            self.assertIs(is_plain(value), True)
        for value in [10 ** 60, -(10 ** 60), 10 ** 60 + 1, 10 ** 5000, (1, (10 ** 60,)), (-(10 ** 60), 1)]:
            self.assertIs(is_plain(value), False)

    def test_tuples_within_one_another(self):
        for many in [1, 2, 29, 30]:
            self.assertIs(is_plain(nested(many)), True, many)
            self.assertIs(is_plain(nested(many, "a")), True, many)
            self.assertIs(is_plain((0, nested(many - 1), 1) if many > 1 else ()), True, many)
        for many in [31, 32, 100, 5000]:
            self.assertIs(is_plain(nested(many)), False, many)
            self.assertIs(is_plain(nested(many, "a")), False, many)
            self.assertIs(is_plain((0, nested(many - 1), 1)), False, many)

    def test_very_many_tuples(self):
        value = nested(200000)
        self.assertIs(is_plain(value), False)
        # Taken apart step by step: the deepest tuples are no test of Python.
        while value:
            value = value[0]

    def test_doubled_tuples(self):
        value = ()
        for _ in range(100):
            value = (value, value)
        self.assertIs(is_plain(value), False)

    def test_wide(self):
        self.assertIs(is_plain(tuple(range(10000))), True)
        self.assertIs(is_plain(tuple(range(10000)) + ([],)), False)

    def test_strange_values(self):
        for value in STRANGE:
            self.assertIs(is_plain(value), False)
            self.assertIs(is_plain((value,)), False)
            self.assertIs(is_plain((1, "a", ((value, 2), 3))), False)
            self.assertIs(is_plain(nested(30, value)), False)

    def test_a_list_that_contains_itself(self):
        value = []
        value.append(value)
        self.assertIs(is_plain(value), False)
        self.assertIs(is_plain((value,)), False)


DIFFERENT = [
    None, True, False, 0, 1, -1, 2, "", "0", "1", "a", "A", "True", "None", "()", "'a'", "\\n", "\n", (), (None,),
    (True,), (False,), (0,), (1,), ("1",), ("a",), ((),), (((),),), ((1,),), ((True,),), (1, 1), (1, True), (True, 1),
    (True, True), (1, (1,)), ((1,), 1), (1, 2), (2, 1), (1, 1, 1), ("a", "b"), ("ab",), ("a, b",), ("a', 'b",),
    ("(1,)",), 10 ** 59, 10 ** 59 + 1, -(10 ** 59), nested(30), nested(30, 1), nested(30, True), nested(29),
]


class SameTest(unittest.TestCase):
    def test_same_only_to_itself(self):
        for at, first in enumerate(DIFFERENT):
            for where, second in enumerate(DIFFERENT):
                self.assertIs(same(first, second), at == where, (first, second))

    def test_equal_values_made_apart(self):
        self.assertIs(same((1, "ab" + "c", (None, True)), (1, "a" + "bc", (None, True))), True)
        self.assertIs(same(int("9" * 60), 10 ** 60 - 1), True)
        self.assertIs(same(nested(30, "x"), nested(30, "x")), True)

    def test_booleans_against_integers_at_every_depth(self):
        for depth in range(1, 31):
            self.assertIs(same(nested(depth, 1), nested(depth, True)), False)
            self.assertIs(same(nested(depth, False), nested(depth, 0)), False)
            self.assertIs(same(nested(depth, True), nested(depth, True)), True)
        self.assertIs(same((0, 1, 2), (False, 1, 2)), False)
        self.assertIs(same((0, 1, 1), (0, 1, True)), False)

    def test_lengths(self):
        self.assertIs(same((1, 2), (1, 2, 3)), False)
        self.assertIs(same((1, 2, 3), (1, 2)), False)
        self.assertIs(same((), (1,)), False)


class NameTest(unittest.TestCase):
    def test_example(self):
        registry = Registry()
        names = registry.name((1, "a")), registry.name((True, "a")), registry.name((1, "a"))
        self.assertEqual(names, (1, 2, 1))

    def test_next_integer_for_each_new_value(self):
        registry = Registry()
        for at, value in enumerate(DIFFERENT):
            self.assertEqual(registry.name(value), at + 1)
        for at, value in reversed(list(enumerate(DIFFERENT))):
            self.assertEqual(registry.name(value), at + 1)
        self.assertEqual(registry.name("new"), len(DIFFERENT) + 1)
        self.assertIs(type(registry.name("new")), int)

    def test_equal_values_made_apart_have_one_name(self):
        registry = Registry()
        self.assertEqual(registry.name(("a" + "b", 10 ** 50)), registry.name(("ab", int("1" + "0" * 50))))

    def test_values_that_differ_in_kinds_alone(self):
        registry = Registry()
        values = [1, True, (1,), (True,), ("x", (0, 1)), ("x", (False, 1)), ("x", (0, True)), 0, False]
        self.assertEqual([registry.name(value) for value in values], list(range(1, len(values) + 1)))

    def test_two_registries_count_by_themselves(self):
        first, second = Registry(), Registry()
        first.name("a")
        first.name("b")
        self.assertEqual(second.name("b"), 1)
        self.assertEqual(second.name("a"), 2)
        self.assertEqual(first.name("c"), 3)
        self.assertEqual(second.name("c"), 3)

    def test_texts_with_signs(self):
        registry = Registry()
        texts = ["'", '"', "'\"", "\\", "\\\\", "\\'", "\u20ac", "\ud800", "\\ud800", "\x00", "\\x00", " ", "\t"]
        self.assertEqual([registry.name(text) for text in texts], list(range(1, len(texts) + 1)))


class SealTest(unittest.TestCase):
    def setUp(self):
        self.registry = Registry()
        self.pen = self.registry.pen(11)

    def test_seal(self):
        body = ("prevote", 1, 0, None)
        self.assertIs(self.registry.is_sealed(11, body), False)
        word = self.pen.seal(body)
        self.assertTrue(same(word, ("sealed", 11, body)))
        self.assertIs(self.registry.is_sealed(11, body), True)
        self.assertTrue(same(self.pen.seal(body), word))
        self.assertIs(self.registry.is_sealed(11, body), True)

    def test_pen_has_its_owner(self):
        self.assertIsInstance(self.pen, Pen)
        self.assertEqual(self.pen.owner, 11)
        self.assertEqual(self.registry.pen(9999).owner, 9999)

    def test_another_owner_body_or_registry(self):
        other, body = Registry(), ("prevote", 1, 0, None)
        self.pen.seal(body)
        self.registry.pen(12).seal("else")
        other.pen(11).seal("else")
        self.assertIs(self.registry.is_sealed(12, body), False)
        self.assertIs(self.registry.is_sealed(13, body), False)
        self.assertIs(self.registry.is_sealed(11, "else"), False)
        self.assertIs(self.registry.is_sealed(11, ("prevote", 1, 0)), False)
        self.assertIs(self.registry.is_sealed(11, ("sealed", 11, body)), False)
        self.assertIs(other.is_sealed(11, body), False)
        self.assertIs(other.is_sealed(11, "else"), True)
        self.assertIs(self.registry.is_sealed(12, "else"), True)

    def test_what_is_sealed_later(self):
        for body in DIFFERENT:
            self.assertIs(self.registry.is_sealed(11, body), False, body)
            self.pen.seal(body)
            self.assertIs(self.registry.is_sealed(11, body), True, body)

    def test_true_against_one(self):
        one = self.registry.pen(1)
        one.seal(("x", 1, (0,)))
        self.assertIs(self.registry.is_sealed(1, ("x", 1, (0,))), True)
        self.assertIs(self.registry.is_sealed(1, ("x", True, (0,))), False)
        self.assertIs(self.registry.is_sealed(1, ("x", 1, (False,))), False)
        self.assertIs(self.registry.is_sealed(True, ("x", 1, (0,))), False)
        self.assertIs(self.registry.is_sealed("1", ("x", 1, (0,))), False)

    def test_any_plain_values(self):
        self.pen.seal(11)
        for owner in DIFFERENT:
            for value in DIFFERENT:
                self.assertIs(self.registry.is_sealed(owner, value), False)

    def test_seals_of_deep_values(self):
        self.pen.seal(nested(30, 1))
        self.assertIs(self.registry.is_sealed(11, nested(30, 1)), True)
        self.assertIs(self.registry.is_sealed(11, nested(30, True)), False)

    def test_a_second_pen(self):
        for owner in [11, 11]:
            with self.assertRaises(InvalidArgument):
                self.registry.pen(owner)
        self.pen.seal("still")
        self.assertIs(self.registry.is_sealed(11, "still"), True)
        self.registry.pen(12)
        with self.assertRaises(InvalidArgument):
            self.registry.pen(12)
        self.assertEqual(Registry().pen(11).owner, 11)


if __name__ == "__main__":
    unittest.main()
