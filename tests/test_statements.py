import unittest

from maps import FOUNDER, PLACES, SayingTest, table, tree_of
from trothbase.errors import MissingPage
from trothbase.names import Registry, same
from trothbase.queries import Look
from trothbase.statements import say
from trothbase.trees import Tree

T = table("t", "it", 1, (1, "one"), (2, "two"), (5, "five"))
# One of each kind that needs the table t, without another problem if it is there.
ABOUT_T = [
    ("drop", "t"),
    ("insert", "t", (9, "nine")),
    ("delete", "t", ()),
    ("update", "t", ((1, ("value", "x")),), ()),
    ("select", ("count",), (("a", "t"),), ()),
]


class CreateTest(SayingTest):
    def test_a_new_table(self):
        for kinds in [("integer",), ("text",), ("text", "integer", "text", "text", "integer")]:
            for keys in range(1, len(kinds) + 1):
                self.check({}, ("create", "t", kinds, keys), True, {(0, "t"): (kinds, keys)})

    def test_a_table_that_exists(self):
        self.check_problem(T, ("create", "t", ("integer", "text"), 1), "exists", "t")
        self.check_problem(T, ("create", "t", ("text",), 1), "exists", "t")
        self.check_problem(table("u", "i", 1), ("create", "u", ("integer",), 1), "exists", "u")

    def test_names_that_begin_alike(self):
        self.check(T, ("create", "tb", ("integer",), 1), True, {(0, "tb"): (("integer",), 1)})
        self.check({}, ("create", "t", ("integer",), 1), True, {(0, "t"): (("integer",), 1)})


class DropTest(SayingTest):
    def test_rows_go_with_the_table(self):
        self.check(T, ("drop", "t"), 3, {(0, "t"): None, (1, "t", 1): None, (1, "t", 2): None, (1, "t", 5): None})
        self.check(table("u", "tt", 2), ("drop", "u"), 0, {(0, "u"): None})

    def test_keys_of_several_columns(self):
        many = table("u", "itt", 2, (1, "a", "x"), (1, "b", "y"), (-1, "", ""))
        keys = [(0, "u"), (1, "u", 1, "a"), (1, "u", 1, "b"), (1, "u", -1, "")]
        self.check(many, ("drop", "u"), 3, {key: None for key in keys})

    def test_other_tables_stay(self):
        self.check({}, ("drop", "s"), 1, {(0, "s"): None, (1, "s", "z"): None})
        self.check({}, ("drop", "tt"), 1, {(0, "tt"): None, (1, "tt", 5): None})
        self.check({**T, **table("aa", "i", 1, (1,))}, ("drop", "aa"), 1, {(0, "aa"): None, (1, "aa", 1): None})

    def test_no_table(self):
        self.check_problem({}, ("drop", "t"), "no table", "t")
        self.check_problem({}, ("drop", "a"), "no table", "a")


class InsertTest(SayingTest):
    def test_a_row(self):
        self.check(T, ("insert", "t", (3, "three")), True, {(1, "t", 3): ("three",)})
        self.check(T, ("insert", "t", (-(10 ** 30) + 1, "")), True, {(1, "t", 1 - 10 ** 30): ("",)})
        self.check(table("t", "it", 1), ("insert", "t", (1, "one")), True, {(1, "t", 1): ("one",)})

    def test_every_number_of_columns_and_keys(self):
        row = (1, "b", 3, "d", 5)
        for width in range(1, 6):
            for keys in range(1, width + 1):
                held = table("t", "ititi"[:width], keys)
                statement = ("insert", "t", row[:width])
                self.check(held, statement, True, {(1, "t", *row[:keys]): row[keys:width]})
                held = table("t", "ititi"[:width], keys, row[:width])
                self.check_problem(held, statement, "key", "t")
                for at in range(width):
                    other = list(row[:width])
                    other[at] = 0 if at in (0, 2, 4) else "x"
                    other = tuple(other)
                    if at < keys:
                        changes = {(1, "t", *other[:keys]): other[keys:]}
                        self.check(held, ("insert", "t", other), True, changes)
                    else:
                        self.check_problem(held, ("insert", "t", other), "key", "t")

    def test_no_table(self):
        self.check_problem({}, ("insert", "t", (1, "one")), "no table", "t")
        self.check_problem({}, ("insert", "t", ("one",)), "no table", "t")

    def test_width(self):
        for row in [(1,), (1, "one", 1), ("one",), (3,), (3, "a", "b", "c", "d")]:
            self.check_problem(T, ("insert", "t", row), "width", "t")

    def test_kinds(self):
        self.check_problem(T, ("insert", "t", ("1", "one")), "kind", 0)
        self.check_problem(T, ("insert", "t", (1, 1)), "kind", 1)
        self.check_problem(T, ("insert", "t", ("1", 1)), "kind", 0)
        five = table("u", "iitti", 2)
        self.check_problem(five, ("insert", "u", (1, 2, "a", 3, "x")), "kind", 3)
        self.check_problem(five, ("insert", "u", (1, 2, "a", "b", "x")), "kind", 4)

    def test_a_row_whose_key_is_there(self):
        self.check_problem(T, ("insert", "t", (1, "one")), "key", "t")
        self.check_problem(T, ("insert", "t", (5, "other")), "key", "t")

    def test_a_key_of_all_columns(self):
        held = table("u", "ti", 2, ("a", 1))
        self.check_problem(held, ("insert", "u", ("a", 1)), "key", "u")
        self.check(held, ("insert", "u", ("a", 2)), True, {(1, "u", "a", 2): ()})

    def test_a_row_that_was_taken_away(self):
        look = Look(tree_of(Registry(), T), {(1, "t", 1): None})
        found = say(look, ("insert", "t", (1, "again")), 2000, FOUNDER)
        self.assertEqual(found, (("answer", True), {(1, "t", 1): ("again",)}))

    def test_the_same_key_in_another_table(self):
        held = {**T, **table("tb", "it", 1)}
        self.check(held, ("insert", "tb", (1, "one")), True, {(1, "tb", 1): ("one",)})


class ReplaceTest(SayingTest):
    def test_by_the_founder(self):
        for place in range(4):
            statement = ("replace", place, 15)
            self.check({}, statement, True, {(3, place): 15}, session=FOUNDER)
        self.check({}, ("replace", 0, 999), True, {(3, 0): 999}, session=FOUNDER)

    def test_by_others(self):
        for statement in [("replace", 0, 15), ("replace", 9, 15), ("replace", 0, 11)]:
            for session in [1001, 2000, 9999]:
                self.check_problem({}, statement, "founder", session=session)
        look = Look(Tree(Registry(), 1, {}), {})
        self.assertEqual(say(look, ("replace", 0, 15), 1001, 1000), (("problem", ("founder",)), {}))
        with self.assertRaises(MissingPage):
            say(look, ("replace", 0, 15), 1001, 1001)

    def test_places_that_are_not_there(self):
        for place in range(4, 10):
            self.check_problem({}, ("replace", place, 15), "place", place, session=FOUNDER)
            self.check_problem({}, ("replace", place, 11), "place", place, session=FOUNDER)

    def test_seven_and_ten_places(self):
        for many in (7, 10):
            places = {(3, place): 21 + place for place in range(many)}
            for place in range(many):
                self.check(places, ("replace", place, 15), True, {(3, place): 15}, session=FOUNDER)
                self.check_problem(places, ("replace", 0, 21 + place), "owner", 21 + place, session=FOUNDER)
            for place in range(many, 10):
                self.check_problem(places, ("replace", place, 15), "place", place, session=FOUNDER)

    def test_owners_that_have_a_place(self):
        for place in range(4):
            for owner in PLACES.values():
                self.check_problem({}, ("replace", place, owner), "owner", owner, session=FOUNDER)

    def test_owners_that_had_a_place(self):
        look = Look(tree_of(Registry(), PLACES), {(3, 0): 15})
        self.assertEqual(say(look, ("replace", 0, 11), FOUNDER, FOUNDER), (("answer", True), {(3, 0): 11}))
        self.assertEqual(say(look, ("replace", 1, 11), FOUNDER, FOUNDER), (("answer", True), {(3, 1): 11}))
        self.assertEqual(say(look, ("replace", 1, 15), FOUNDER, FOUNDER), (("problem", ("owner", 15)), {}))


class TablesTest(SayingTest):
    def test_no_table(self):
        for statement in ABOUT_T:
            self.check_problem({}, statement, "no table", "t")
            self.check_problem(table("tb", "it", 1), statement, "no table", "t")

    def test_a_table_that_was_taken_away(self):
        whole = {**PLACES, **T}
        over = {key: None for key in T}
        for statement in ABOUT_T:
            found = say(Look(tree_of(Registry(), whole), over), statement, 2000, FOUNDER)
            self.assertEqual(found, (("problem", ("no table", "t")), {}))

    def test_a_table_that_is_made_again(self):
        over = {key: None for key in T}
        over[(0, "t")] = (("text",), 1)
        over[(1, "t", "a")] = ()
        look = Look(tree_of(Registry(), {**PLACES, **T}), over)
        self.assertEqual(
            say(look, ("select", ("rows", (("column", "t", 0),)), (("t", "t"),), ()), 2000, FOUNDER),
            (("answer", (("a",),)), {}),
        )
        found = say(look, ("drop", "t"), 2000, FOUNDER)
        self.assertEqual(found, (("answer", 1), {(0, "t"): None, (1, "t", "a"): None}))

    def test_anybody_may_say_all_but_replace(self):
        for statement in ABOUT_T:
            first = self.said(T, statement, session=FOUNDER)
            self.assertEqual(first[0][0], "answer")
            self.assertEqual(self.said(T, statement, session=9999), first)


class PagesTest(SayingTest):
    """What is visited is enough, and what is missing is told."""

    def setUp(self):
        rows = [(at, "x" * (at // 10)) for at in range(10, 50)]
        self.registry = Registry()
        self.tree = tree_of(self.registry, {**PLACES, **table("t", "it", 1, *rows), **table("u", "i", 1, (1,))})

    def fresh(self, pages):
        return Tree(self.registry, self.tree.root, pages)

    def test_missing_pages(self):
        for statement in [*ABOUT_T, ("create", "x", ("text",), 1), ("replace", 0, 15)]:
            whole = self.fresh(self.tree.pages())
            answer, changes = say(Look(whole, {}), statement, FOUNDER, FOUNDER)
            self.assertEqual(answer[0], "answer")
            visited = whole.visited()
            self.assertTrue(visited)
            enough = {name: self.tree.pages()[name] for name in visited}
            found = say(Look(self.fresh(enough), {}), statement, FOUNDER, FOUNDER)
            self.assertTrue(same(found[0], answer))
            self.assertEqual(found[1], changes)
            for name in visited:
                lacking = {other: page for other, page in enough.items() if other != name}
                with self.assertRaises(MissingPage):
                    say(Look(self.fresh(lacking), {}), statement, FOUNDER, FOUNDER)

    def test_the_look_and_the_tree_stay(self):
        over = {(1, "t", 13): None, (1, "t", 99): ("y",)}
        tree = self.fresh(self.tree.pages())
        look = Look(tree, over)
        for statement in ABOUT_T:
            first = say(look, statement, 2000, FOUNDER)
            first[1][(1, "t", 13)] = ("spoilt",)
            again = say(look, statement, 2000, FOUNDER)
            self.assertEqual(again[0], first[0])
            self.assertNotEqual(again[1].get((1, "t", 13)), ("spoilt",))
        self.assertEqual(over, {(1, "t", 13): None, (1, "t", 99): ("y",)})
        self.assertEqual(tree.root, self.tree.root)
        self.assertEqual(tree.pages(), self.tree.pages())


if __name__ == "__main__":
    unittest.main()
