import unittest

from maps import SayingTest, table

T = table("t", "iti", 1, (1, "a", 10), (2, "b", 20), (3, "a", 30))
U = table("u", "ti", 1, ("a", 1), ("b", 3), ("c", 3))
BOTH = {**T, **U}
COUNT = ("count",)
T_ALONE = (("x", "t"),)
PAIR = (("x", "t"), ("y", "u"))


def value(held):
    return ("value", held)


def column(alias, index):
    return ("column", alias, index)


def rows(*operands):
    return ("rows", operands)


class SelectingTest(SayingTest):
    def select(self, output, sources, conditions, told, entries=BOTH):
        self.check(entries, ("select", output, sources, tuple(conditions)), told, {})

    def refuse(self, output, sources, conditions, *problem, entries=BOTH):
        self.check_problem(entries, ("select", output, sources, tuple(conditions)), *problem)


class SourcesTest(SelectingTest):
    def test_one_source(self):
        self.select(COUNT, T_ALONE, [], 3)
        self.select(COUNT, (("t", "t"),), [], 3)
        self.select(COUNT, (("u", "t"),), [], 3)
        self.select(COUNT, (("x", "e"),), [], 0, table("e", "i", 1))

    def test_two_sources(self):
        told = tuple((number, text) for number in (1, 2, 3) for text in "abc")
        self.select(rows(column("x", 0), column("y", 0)), PAIR, [], told)
        self.select(COUNT, PAIR, [], 9)
        told = tuple((text, number) for text in "abc" for number in (1, 2, 3))
        self.select(rows(column("y", 0), column("x", 0)), (("y", "u"), ("x", "t")), [], told)

    def test_a_source_without_rows(self):
        entries = {**T, **table("e", "i", 1)}
        for sources in [(("x", "t"), ("y", "e")), (("y", "e"), ("x", "t")), (("x", "e"), ("y", "e"))]:
            self.select(COUNT, sources, [], 0, entries)
            self.select(("sum", value(1)), sources, [], 0, entries)
            self.select(rows(value(1)), sources, [], (), entries)

    def test_the_same_table_twice(self):
        sources = (("x", "t"), ("y", "t"))
        self.select(COUNT, sources, [], 9)
        self.select(
            rows(column("x", 0), column("y", 0)), sources, [("=", column("x", 1), column("y", 1))],
            ((1, 1), (1, 3), (2, 2), (3, 1), (3, 3)),
        )
        self.select(
            rows(column("y", 0), column("x", 0)), sources, [("<", column("x", 0), column("y", 0))],
            ((2, 1), (3, 1), (3, 2)),
        )

    def test_an_alias_that_is_the_name_of_another_table(self):
        self.select(rows(column("u", 0)), (("u", "t"), ("t", "u")), [("=", column("t", 1), column("u", 0))],
                    ((1,), (3,), (3,)))

    def test_no_table(self):
        self.refuse(COUNT, (("x", "no"),), [], "no table", "no")
        self.refuse(COUNT, (("x", "no"), ("y", "t")), [], "no table", "no")
        self.refuse(COUNT, (("x", "t"), ("y", "no")), [], "no table", "no")
        self.refuse(COUNT, (("x", "no"), ("x", "none")), [], "no table", "no")
        self.refuse(COUNT, (("x", "t"), ("x", "no")), [("=", column("z", 0), value(1))], "no table", "no")

    def test_the_same_alias_twice(self):
        self.refuse(COUNT, (("x", "t"), ("x", "u")), [], "alias", "x")
        self.refuse(COUNT, (("x", "t"), ("x", "t")), [], "alias", "x")
        self.refuse(COUNT, (("t", "t"), ("t", "u")), [("=", column("z", 0), value(1))], "alias", "t")


class ConditionsTest(SelectingTest):
    def test_operators_on_integers(self):
        for operator, told in [("=", (2,)), ("<>", (1, 3)), ("<", (1,)), ("<=", (1, 2))]:
            found = tuple((number,) for number in told)
            self.select(rows(column("x", 0)), T_ALONE, [(operator, column("x", 0), value(2))], found)
        for operator, told in [("=", (2,)), ("<>", (1, 3)), ("<", (3,)), ("<=", (2, 3))]:
            found = tuple((number,) for number in told)
            self.select(rows(column("x", 0)), T_ALONE, [(operator, value(2), column("x", 0))], found)

    def test_operators_on_texts(self):
        entries = table("t", "t", 1, ("",), (" ",), ("10",), ("9",), ("A",), ("a",), ("aa",), ("b",))
        told = {
            "=": ["a"], "<>": ["", " ", "10", "9", "A", "aa", "b"],
            "<": ["", " ", "10", "9", "A"], "<=": ["", " ", "10", "9", "A", "a"],
        }
        for operator, texts in told.items():
            found = tuple((text,) for text in texts)
            self.select(rows(column("x", 0)), T_ALONE, [(operator, column("x", 0), value("a"))], found, entries)

    def test_integers_go_by_size(self):
        large = 10 ** 30 - 1
        entries = table("t", "i", 1, (-large,), (-10,), (-9,), (0,), (9,), (10,), (large,))
        self.select(rows(column("x", 0)), T_ALONE, [("<", column("x", 0), value(10))],
                    ((-large,), (-10,), (-9,), (0,), (9,)), entries)
        self.select(COUNT, T_ALONE, [("<=", column("x", 0), value(-large))], 1, entries)
        self.select(COUNT, T_ALONE, [("=", column("x", 0), value(large))], 1, entries)

    def test_constants_alone(self):
        for operator, first, second, holds in [
            ("=", 1, 1, 1), ("=", 1, 2, 0), ("<>", "a", "b", 1), ("<>", "a", "a", 0), ("<", "a", "b", 1),
            ("<", 2, 2, 0), ("<=", 2, 2, 1), ("<=", "b", "a", 0),
        ]:
            self.select(COUNT, T_ALONE, [(operator, value(first), value(second))], 3 * holds)
            self.select(COUNT, PAIR, [(operator, value(first), value(second))], 9 * holds)

    def test_columns_of_both_sources(self):
        self.select(rows(column("x", 0), column("y", 0)), PAIR, [("=", column("x", 0), column("y", 1))],
                    ((1, "a"), (3, "b"), (3, "c")))
        self.select(rows(column("x", 0), column("y", 0)), PAIR, [("=", column("y", 0), column("x", 1))],
                    ((1, "a"), (2, "b"), (3, "a")))
        self.select(COUNT, PAIR, [("<", column("x", 2), column("y", 1))], 0)

    def test_none_to_six_conditions(self):
        conditions = [
            ("<=", column("x", 0), column("y", 1)), ("<>", column("y", 0), value("z")), ("<", value(0), column("x", 2)),
            ("=", value("a"), value("a")), ("<>", column("y", 0), value("c")), ("=", column("x", 1), value("b")),
        ]
        for many, told in enumerate([9, 7, 7, 7, 7, 4, 1]):
            self.select(COUNT, PAIR, conditions[:many], told)
            self.select(COUNT, PAIR, conditions[:many][::-1], told)
        for at in range(6):
            spoilt = list(conditions)
            spoilt[at] = ("=", value(0), value(1))
            self.select(COUNT, PAIR, spoilt, 0)

    def test_unknown_aliases(self):
        for sources in [T_ALONE, PAIR]:
            self.refuse(COUNT, sources, [("=", column("z", 0), value(1))], "alias", "z")
            self.refuse(COUNT, sources, [("=", value(1), column("t", 0))], "alias", "t")
            self.refuse(COUNT, sources, [("=", column("z", 4), column("q", 0))], "alias", "z")
        self.refuse(COUNT, T_ALONE, [("=", column("y", 0), value("a"))], "alias", "y")

    def test_unknown_columns(self):
        self.refuse(COUNT, PAIR, [("=", column("x", 3), value(1))], "column", "x", 3)
        self.refuse(COUNT, PAIR, [("=", value(1), column("y", 2))], "column", "y", 2)
        self.refuse(COUNT, PAIR, [("=", column("y", 4), column("z", 0))], "column", "y", 4)
        self.refuse(COUNT, PAIR, [("=", column("x", 0), column("x", 4))], "column", "x", 4)
        self.select(COUNT, PAIR, [("=", column("x", 2), column("y", 1))], 0)

    def test_operands_of_different_kinds(self):
        for first, second in [
            (value(1), value("1")), (column("x", 0), value("1")), (value(1), column("x", 1)),
            (column("x", 1), column("y", 1)), (column("x", 2), column("y", 0)),
        ]:
            for operator in ["=", "<>", "<", "<="]:
                self.refuse(COUNT, PAIR, [(operator, first, second)], "compare", 0)
                self.refuse(COUNT, PAIR, [(operator, second, first)], "compare", 0)
        right = ("=", value(1), value(2))
        for number in range(6):
            conditions = [right] * 6
            conditions[number] = ("=", column("x", 0), value("a"))
            self.refuse(COUNT, PAIR, conditions, "compare", number)

    def test_the_first_problem(self):
        alias, index = ("=", column("z", 0), value(1)), ("=", value(1), column("x", 3))
        kinds, right = ("=", value(1), value("a")), ("=", value(1), value(1))
        self.refuse(COUNT, PAIR, [right, kinds, alias, index], "compare", 1)
        self.refuse(COUNT, PAIR, [alias, kinds, index], "alias", "z")
        self.refuse(COUNT, PAIR, [right, right, index, alias, kinds], "column", "x", 3)
        self.refuse(COUNT, PAIR, [kinds, kinds], "compare", 0)
        self.refuse(COUNT, PAIR, [("=", value("a"), column("x", 3))], "column", "x", 3)
        self.refuse(COUNT, PAIR, [("=", column("x", 4), column("x", 3))], "column", "x", 4)
        self.refuse(COUNT, PAIR, [("=", column("x", 4), column("z", 3))], "column", "x", 4)
        self.refuse(COUNT, PAIR, [("=", column("z", 3), column("x", 4))], "alias", "z")
        self.refuse(("sum", column("q", 0)), PAIR, [kinds], "compare", 0)
        self.refuse(rows(column("x", 4)), PAIR, [right, alias], "alias", "z")


class OutputsTest(SelectingTest):
    def test_count(self):
        self.select(COUNT, T_ALONE, [("<", value(1), column("x", 0))], 2)
        self.select(COUNT, T_ALONE, [("<", value(3), column("x", 0))], 0)

    def test_sums(self):
        self.select(("sum", column("x", 2)), T_ALONE, [], 60)
        self.select(("sum", column("x", 2)), T_ALONE, [("=", column("x", 1), value("a"))], 40)
        self.select(("sum", column("x", 2)), T_ALONE, [("=", column("x", 1), value("q"))], 0)
        self.select(("sum", column("x", 0)), PAIR, [], 18)
        self.select(("sum", column("y", 1)), PAIR, [("=", column("x", 0), value(1))], 7)
        self.select(("sum", value(7)), PAIR, [], 63)
        self.select(("sum", value(-2)), T_ALONE, [], -6)

    def test_large_sums(self):
        large = 10 ** 30 - 1
        entries = table("t", "ii", 1, (1, large), (2, large), (3, -large), (4, large))
        self.select(("sum", column("x", 1)), T_ALONE, [], 2 * large, entries)
        self.select(("sum", value(large)), T_ALONE, [], 4 * large, entries)

    def test_rows(self):
        self.select(rows(column("x", 1)), T_ALONE, [], (("a",), ("b",), ("a",)))
        self.select(rows(column("x", 2), value("q"), column("x", 0), column("x", 2), value(0), column("x", 1)), T_ALONE,
                    [("<>", column("x", 0), value(2))], ((10, "q", 1, 10, 0, "a"), (30, "q", 3, 30, 0, "a")))
        self.select(rows(value(1)), PAIR, [("=", column("y", 1), value(3))], ((1,),) * 6)
        self.select(rows(column("y", 1)), PAIR, [], ((1,), (3,), (3,)) * 3)

    def test_the_order_of_rows(self):
        entries = {
            **table("t", "it", 2, (-10, "b"), (-10, "B"), (-9, ""), (0, "a"), (9, "10"), (9, "9"), (10, "a")),
            **table("u", "tt", 1, ("10", "z"), ("9", "y"), ("a", "x")),
        }
        told = ((-10, "B"), (-10, "b"), (-9, ""), (0, "a"), (9, "10"), (9, "9"), (10, "a"))
        self.select(rows(column("x", 0), column("x", 1)), T_ALONE, [], told, entries)
        self.select(rows(column("y", 1)), (("y", "u"),), [], (("z",), ("y",), ("x",)), entries)

    def test_unknown_aliases_and_columns(self):
        self.refuse(("sum", column("z", 0)), T_ALONE, [], "alias", "z")
        self.refuse(("sum", column("t", 0)), T_ALONE, [], "alias", "t")
        self.refuse(("sum", column("x", 3)), T_ALONE, [], "column", "x", 3)
        self.refuse(rows(column("x", 0), column("z", 0), column("x", 3)), T_ALONE, [], "alias", "z")
        self.refuse(rows(value("z"), column("x", 3), column("z", 0)), PAIR, [], "column", "x", 3)
        self.refuse(rows(*[column("y", 1)] * 5, column("y", 2)), PAIR, [], "column", "y", 2)

    def test_sums_of_texts(self):
        self.refuse(("sum", column("x", 1)), T_ALONE, [], "sum")
        self.refuse(("sum", value("1")), T_ALONE, [], "sum")
        self.refuse(("sum", value("")), (("x", "e"),), [], "sum", entries=table("e", "i", 1))
        self.refuse(("sum", column("y", 0)), PAIR, [("=", value(1), value(2))], "sum")


if __name__ == "__main__":
    unittest.main()
