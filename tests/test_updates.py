import unittest

from maps import SayingTest, table

LARGE = 10 ** 30
T = table("t", "itiit", 1, (1, "a", 10, 100, "p"), (2, "b", 20, 200, "q"), (3, "a", 30, 300, "r"))


def value(held):
    return ("value", held)


def column(index, alias="t"):
    return ("column", alias, index)


IS_A = ("=", column(1), value("a"))


class DeleteTest(SayingTest):
    def delete(self, conditions, *numbers):
        changes = {(1, "t", number): None for number in numbers}
        self.check(T, ("delete", "t", tuple(conditions)), len(numbers), changes)

    def test_rows_that_meet_the_conditions(self):
        self.delete([], 1, 2, 3)
        self.delete([IS_A], 1, 3)
        self.delete([IS_A, ("<", column(2), value(30))], 1)
        self.delete([("<=", column(2), column(3))], 1, 2, 3)
        self.delete([("<", column(3), column(2))])
        self.delete([("=", value(1), value(1))], 1, 2, 3)
        self.delete([("=", value(1), value(2))])

    def test_other_tables_stay(self):
        self.check({}, ("delete", "ta", (("<", column(1, "ta"), value(8)),)), 1, {(1, "ta", 0): None})
        self.check(table("t", "i", 1), ("delete", "t", ()), 0, {})

    def test_keys_of_several_columns(self):
        held = table("t", "titi", 3, ("a", 1, "x", 5), ("a", 1, "y", 6), ("a", 2, "x", 5), ("b", 1, "x", 5))
        self.check(held, ("delete", "t", (("=", column(3), value(5)), ("=", column(1), value(1)))), 2,
                   {(1, "t", "a", 1, "x"): None, (1, "t", "b", 1, "x"): None})

    def test_problems(self):
        for conditions, problem in [
            ([("=", column(0, "x"), value(1))], ("alias", "x")),
            ([("=", column(0), column(0, "u"))], ("alias", "u")),
            ([("=", value(1), column(0, "ta"))], ("alias", "ta")),
            ([("=", value("a"), column(0))], ("compare", 0)),
            ([IS_A, ("=", column(0), column(1))], ("compare", 1)),
            ([("=", column(0, "x"), value(1)), ("=", value(1), value("a"))], ("alias", "x")),
        ]:
            self.check_problem(T, ("delete", "t", tuple(conditions)), *problem)
            self.check_problem({}, ("delete", "t", tuple(conditions)), "no table", "t")
        two = table("t", "it", 1, (1, "a"))
        self.check_problem(two, ("delete", "t", (("=", column(2), value(1)),)), "column", "t", 2)
        self.check_problem(two, ("delete", "t", (("=", value(1), value("a")), IS_A)), "compare", 0)


class UpdateTest(SayingTest):
    def update(self, settings, conditions, rows, entries=T):
        changes = {(1, "t", number): rest for number, rest in rows.items()}
        self.check(entries, ("update", "t", tuple(settings), tuple(conditions)), len(rows), changes)

    def refuse(self, settings, conditions, *problem, entries=T):
        self.check_problem(entries, ("update", "t", tuple(settings), tuple(conditions)), *problem)


class SettingsTest(UpdateTest):
    def test_values(self):
        self.update([(1, value("z"))], [IS_A], {1: ("z", 10, 100, "p"), 3: ("z", 30, 300, "r")})
        self.update([(2, value(-7))], [("=", column(0), value(2))], {2: ("b", -7, 200, "q")})
        self.update([(4, value("")), (2, value(0))], [IS_A], {1: ("a", 0, 100, ""), 3: ("a", 0, 300, "")})

    def test_sums(self):
        self.update([(2, ("plus", 5))], [], {1: ("a", 15, 100, "p"), 2: ("b", 25, 200, "q"), 3: ("a", 35, 300, "r")})
        self.update([(2, ("plus", -20))], [IS_A], {1: ("a", -10, 100, "p"), 3: ("a", 10, 300, "r")})
        self.update([(3, ("plus", 0))], [("=", column(0), value(2))], {2: ("b", 20, 200, "q")})

    def test_columns(self):
        self.update([(2, ("column", 3))], [IS_A], {1: ("a", 100, 100, "p"), 3: ("a", 300, 300, "r")})
        self.update([(1, ("column", 4))], [IS_A], {1: ("p", 10, 100, "p"), 3: ("r", 30, 300, "r")})
        self.update([(3, ("column", 0))], [], {1: ("a", 10, 1, "p"), 2: ("b", 20, 2, "q"), 3: ("a", 30, 3, "r")})
        self.update([(2, ("column", 2))], [("=", column(0), value(1))], {1: ("a", 10, 100, "p")})

    def test_all_settings_go_by_the_row_as_it_was(self):
        swap = [(2, ("column", 3)), (3, ("column", 2))]
        self.update(swap, [IS_A], {1: ("a", 100, 10, "p"), 3: ("a", 300, 30, "r")})
        self.update(swap[::-1], [IS_A], {1: ("a", 100, 10, "p"), 3: ("a", 300, 30, "r")})
        both = [(2, ("plus", 1)), (3, ("column", 2))]
        self.update(both, [IS_A], {1: ("a", 11, 10, "p"), 3: ("a", 31, 30, "r")})
        self.update(both[::-1], [IS_A], {1: ("a", 11, 10, "p"), 3: ("a", 31, 30, "r")})
        texts = [(1, value("z")), (4, ("column", 1)), (3, ("column", 2)), (2, value(0))]
        self.update(texts, [IS_A], {1: ("z", 0, 10, "a"), 3: ("z", 0, 30, "a")})

    def test_conditions_go_by_the_row_as_it_was(self):
        self.update([(2, value(0))], [("<", column(2), value(25))], {1: ("a", 0, 100, "p"), 2: ("b", 0, 200, "q")})
        self.update([(2, value(0))], [("=", column(2), value(0))], {})

    def test_rows_that_stay_the_same_are_in_the_changes(self):
        self.update([(1, value("a"))], [IS_A], {1: ("a", 10, 100, "p"), 3: ("a", 30, 300, "r")})
        self.update([(2, ("plus", 0))], [], {
            1: ("a", 10, 100, "p"), 2: ("b", 20, 200, "q"), 3: ("a", 30, 300, "r"),
        })

    def test_no_rows(self):
        self.update([(1, value("z"))], [("=", value(1), value(2))], {})
        self.update([(1, value("z"))], [], {}, table("t", "it", 1))
        self.update([(2, ("plus", LARGE - 1))], [("<", column(0), value(0))], {})

    def test_keys_of_several_columns(self):
        held = table("t", "itti", 3, (1, "a", "x", 5), (1, "a", "y", 6), (2, "a", "x", 7))
        statement = ("update", "t", ((3, ("plus", 1)),), (("=", column(0), value(1)),))
        self.check(held, statement, 2, {(1, "t", 1, "a", "x"): (6,), (1, "t", 1, "a", "y"): (7,)})
        statement = ("update", "t", ((3, ("column", 0)),), ())
        changes = {(1, "t", 1, "a", "x"): (1,), (1, "t", 1, "a", "y"): (1,), (1, "t", 2, "a", "x"): (2,)}
        self.check(held, statement, 3, changes)

    def test_other_tables_stay(self):
        self.check({}, ("update", "ta", ((1, value(0)),), ()), 2, {(1, "ta", 0): (0,), (1, "ta", 1): (0,)})


class SettingProblemsTest(UpdateTest):
    def test_columns_that_are_not_there(self):
        two = table("t", "it", 1, (1, "a"))
        for index in (2, 3, 4):
            self.refuse([(index, value("x"))], [], "column", "t", index, entries=two)
            self.refuse([(index, ("column", 4))], [], "column", "t", index, entries=two)
            self.refuse([(1, ("column", index))], [], "column", "t", index, entries=two)

    def test_key_columns(self):
        for keys in range(1, 6):
            held = table("t", "iiiii", keys, (1, 2, 3, 4, 5))
            for at in range(5):
                if at < keys:
                    self.refuse([(at, value(0))], [], "key", "t", entries=held)
                    self.refuse([(at, ("column", at))], [], "key", "t", entries=held)
                else:
                    row = [1, 2, 3, 4, 5]
                    row[at] = 0
                    changes = {(1, "t", *row[:keys]): tuple(row[keys:])}
                    self.check(held, ("update", "t", ((at, value(0)),), ()), 1, changes)

    def test_columns_twice(self):
        self.refuse([(1, value("x")), (1, value("x"))], [], "twice", 1)
        self.refuse([(1, value("x")), (2, value(0)), (3, value(0)), (4, value("")), (2, value(1))], [], "twice", 2)
        self.refuse([(2, value(0)), (1, value("x")), (2, value("x"))], [], "twice", 2)

    def test_what_is_set_has_another_kind(self):
        for setting in [(1, value(1)), (1, ("plus", 1)), (1, ("column", 2)), (4, ("column", 0)), (4, ("plus", 0))]:
            self.refuse([setting], [], "set", setting[0])
        for setting in [(2, value("1")), (2, ("column", 1)), (3, ("column", 4))]:
            self.refuse([setting], [], "set", setting[0])
            self.refuse([setting], [("=", value(1), value(2))], "set", setting[0])

    def test_the_first_problem_of_a_setting(self):
        three = table("t", "itt", 1, (1, "a", "b"))
        self.refuse([(3, ("column", 4))], [], "column", "t", 3, entries=three)
        self.refuse([(0, ("column", 4))], [], "key", "t", entries=three)
        self.refuse([(0, value("x"))], [], "key", "t", entries=three)
        self.refuse([(1, value("x")), (1, ("column", 4))], [], "twice", 1, entries=three)
        self.refuse([(1, value("x")), (1, value(1))], [], "twice", 1, entries=three)
        self.refuse([(0, value(1)), (0, value(1))], [], "key", "t", entries=three)

    def test_the_first_setting_with_a_problem(self):
        three = table("t", "iti", 1, (1, "a", 2))
        wrong = {
            ("column", "t", 3): (3, value(1)), ("key", "t"): (0, value(1)), ("column", "t", 4): (1, ("column", 4)),
            ("set", 1): (1, value(1)), ("twice", 2): (2, ("plus", 2)),
        }
        for problem, setting in wrong.items():
            for other in wrong.values():
                if other != setting and (setting[0] != other[0]):
                    self.refuse([(2, value(1)), setting, other], [], *problem, entries=three)

    def test_problems_of_conditions_are_first(self):
        wrong = [(0, value(1)), (4, value(1)), (1, value(1)), (1, ("column", 4))]
        for setting in wrong:
            two = table("t", "it", 1, (1, "a"))
            self.refuse([setting], [("=", column(0, "x"), value(1))], "alias", "x", entries=two)
            self.refuse([setting], [("=", column(2), value(1))], "column", "t", 2, entries=two)
            self.refuse([setting], [IS_A, ("=", column(1), value(1))], "compare", 1, entries=two)
            self.refuse([setting], [], "no table", "t", entries={})

    def test_large_values(self):
        for held, number, large in [
            (LARGE - 1, 1, True), (LARGE - 1, 0, False), (LARGE - 2, 1, False), (1 - LARGE, -1, True),
            (1 - LARGE, 0, False), (2 - LARGE, -1, False), (LARGE - 1, LARGE - 1, True), (LARGE - 1, 1 - LARGE, False),
            (1 - LARGE, 1 - LARGE, True), (1, LARGE - 1, True), (0, LARGE - 1, False), (-1, 1 - LARGE, True),
        ]:
            entries = table("t", "iti", 1, (1, "a", held), (2, "b", 0))
            settings = [(1, value("z")), (2, ("plus", number))]
            if large:
                self.refuse(settings, [IS_A], "large", entries=entries)
                self.refuse(settings[1:], [], "large", entries=entries)
            else:
                self.update(settings, [IS_A], {1: ("z", held + number)}, entries)
            self.update(settings, [("=", column(1), value("b"))], {2: ("z", number)}, entries)

    def test_a_large_value_in_any_row_and_setting(self):
        entries = table("t", "iii", 1, *[(at, LARGE - at, at) for at in range(1, 6)])
        for number, large in [(0, False), (1, True)]:
            for settings in [[(1, ("plus", number)), (2, value(0))], [(2, value(0)), (1, ("plus", number))]]:
                if large:
                    self.refuse(settings, [], "large", entries=entries)
                else:
                    self.update(settings, [], {at: (LARGE - at, 0) for at in range(1, 6)}, entries)

    def test_problems_of_settings_are_before_large_values(self):
        entries = table("t", "iit", 1, (1, LARGE - 1, "a"))
        self.refuse([(1, ("plus", 1)), (2, value(1))], [], "set", 2, entries=entries)
        self.refuse([(1, ("plus", 1)), (0, value(1))], [], "key", "t", entries=entries)
        self.refuse([(1, ("plus", 1))], [], "large", entries=entries)


if __name__ == "__main__":
    unittest.main()
