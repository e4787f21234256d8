import unittest

from test_names import STRANGE, nested
from trothbase.forms import is_statement

LARGE = 10 ** 30
VALUES = [0, -1, 7, LARGE - 1, 1 - LARGE, "", " ", "~", "it's", "x" * 40, "AZaz09", "!\"#$&\\"]
WRONG_VALUES = [
    True, False, None, LARGE, -LARGE, 10 ** 59, "x" * 41, "50\x25", "\x25", "\n", "\x7f", "\x1f", "\xe9", "\u20ac",
    (), (1,), ("a",), ("value", 1),
]
NAMES = ["a", "z", "accounts", "abcdefghijkl"]
WRONG_NAMES = [
    "", "abcdefghijklm", "A", "aB", "a1", "a_b", "a b", " a", "a ", "1", "-", "`", "{", "\xe9", "\u0430", "a\n",
    None, True, 0, 1, (), ("a",),
]
NUMBERS_0_TO_4 = [0, 1, 4]
WRONG_NUMBERS_0_TO_4 = [-1, 5, 10 ** 40, True, False, None, "0", (), (0,)]

VALUE = ("value", 1)
COLUMN = ("column", "a", 0)
CONDITION = ("=", COLUMN, VALUE)
SETTING = (0, VALUE)
SOURCE = ("a", "t")
NOT_TUPLES = [None, True, 0, 1, "", "a", "at"]

GOOD = [
    ("create", "t", ("integer", "text"), 1),
    ("drop", "t"),
    ("insert", "t", (1, "x")),
    ("delete", "t", (CONDITION,)),
    ("update", "t", (SETTING,), (CONDITION,)),
    ("select", ("count",), (SOURCE,), (CONDITION,)),
    ("select", ("sum", COLUMN), (SOURCE, ("b", "u")), ()),
    ("select", ("rows", (COLUMN, VALUE)), (SOURCE,), (CONDITION,)),
    ("replace", 3, 15),
]


class FormsTest(unittest.TestCase):
    def check(self, right, values):
        for value in values:
            self.assertIs(is_statement(value), right, value)

    def check_operands(self, around):
        """Everything that can stand for an operand, within a statement."""
        self.check(True, [around(("value", value)) for value in VALUES])
        self.check(False, [around(("value", value)) for value in WRONG_VALUES])
        self.check(True, [around(("column", alias, 2)) for alias in NAMES])
        self.check(False, [around(("column", alias, 2)) for alias in WRONG_NAMES])
        self.check(True, [around(("column", "a", index)) for index in NUMBERS_0_TO_4])
        self.check(False, [around(("column", "a", index)) for index in WRONG_NUMBERS_0_TO_4])
        self.check(False, [around(wrong) for wrong in NOT_TUPLES])
        self.check(False, [around(wrong) for wrong in [
            (), ("value",), ("value", 1, 2), ("column",), ("column", 0), ("column", "a"), ("column", "a", 0, 0),
            ("plus", 1), ("Value", 1), (None, 1), (True, 1), (("value",), 1), ("columns", "a", 0), (1, "a", 0), (VALUE,),
        ]])

    def check_conditions(self, around):
        self.check(True, [around((CONDITION,) * many) for many in range(7)])
        self.check(False, [around((CONDITION,) * 7), around((CONDITION,) * 8), around(CONDITION), around(((),))])
        self.check(False, [around(wrong) for wrong in NOT_TUPLES])
        self.check(False, [around((CONDITION, wrong)) for wrong in NOT_TUPLES + [(), ("=", VALUE), ("=",)]])
        self.check(False, [around((CONDITION, ("=", VALUE, VALUE, VALUE))), around((("=", (VALUE, VALUE)),))])
        self.check(True, [around(((sign, VALUE, COLUMN),)) for sign in ["=", "<>", "<", "<="]])
        signs = ["", ">", ">=", "==", "!=", "=<", "and", " =", "<> ", None, True, 0, (), ("=",)]
        self.check(False, [around(((sign, VALUE, COLUMN),)) for sign in signs])
        self.check_operands(lambda operand: around((("<", operand, VALUE),)))
        self.check_operands(lambda operand: around((("<", VALUE, operand),)))
        self.check_operands(lambda operand: around((CONDITION, CONDITION, ("<>", COLUMN, operand))))

    def test_good_ones(self):
        self.check(True, GOOD)

    def test_one_part_missing_or_too_many(self):
        for value in GOOD:
            self.check(False, [value[:many] for many in range(len(value))])
            self.check(False, [value + (part,) for part in [None, 0, (), "t", 1]])
            self.check(False, [value[1:], (value,), list(value)])

    def test_wrong_words(self):
        for value in GOOD:
            for word in ["", "Drop", "drops", "drop ", "where", None, True, 0, (), ("drop",), nested(29)]:
                self.check(False, [(word,) + value[1:]])

    def test_tables(self):
        for value in [value for value in GOOD if value[1] == "t"]:
            self.check(True, [(value[0], name) + value[2:] for name in NAMES])
            self.check(False, [(value[0], name) + value[2:] for name in WRONG_NAMES])

    def test_kinds(self):
        for many in range(1, 6):
            for keys in range(-1, 8):
                self.check(1 <= keys <= many, [("create", "t", ("integer",) * many, keys)])
                self.check(1 <= keys <= many, [("create", "t", ("text",) * many, keys)])
        self.check(False, [("create", "t", (), 0), ("create", "t", (), 1), ("create", "t", ("text",) * 6, 1)])
        for wrong in ["Text", "int", "", None, True, 0, (), ("text",)]:
            self.check(False, [("create", "t", (wrong,), 1), ("create", "t", ("text", wrong), 1)])
        self.check(False, [("create", "t", kinds, 1) for kinds in NOT_TUPLES + ["text", ["text"]]])

    def test_keys(self):
        self.check(False, [("create", "t", ("text", "text"), keys) for keys in [True, False, None, "1", (), (1,), 10 ** 9]])

    def test_rows(self):
        self.check(True, [("insert", "t", ("x",) * many) for many in range(1, 6)])
        self.check(False, [("insert", "t", ()), ("insert", "t", (1,) * 6)])
        self.check(True, [("insert", "t", (value,)) for value in VALUES])
        self.check(True, [("insert", "t", tuple(VALUES[:5])), ("insert", "t", (1, 2, 3, 4, "x" * 40))])
        self.check(False, [("insert", "t", (value,)) for value in WRONG_VALUES])
        self.check(False, [("insert", "t", (1, "a", value)) for value in WRONG_VALUES])
        self.check(False, [("insert", "t", row) for row in NOT_TUPLES + [[1]]])

    def test_conditions(self):
        self.check_conditions(lambda conditions: ("delete", "t", conditions))
        self.check_conditions(lambda conditions: ("update", "t", (SETTING,), conditions))
        self.check_conditions(lambda conditions: ("select", ("count",), (SOURCE,), conditions))

    def test_settings(self):
        def around(settings):
            return ("update", "t", settings, ())

        self.check(True, [around((SETTING,) * many) for many in range(1, 6)])
        self.check(False, [around(()), around((SETTING,) * 6), around(SETTING), around(((),))])
        self.check(False, [around(wrong) for wrong in NOT_TUPLES])
        self.check(False, [around((SETTING, wrong)) for wrong in NOT_TUPLES + [(0,), (0, VALUE, VALUE), (), VALUE]])
        self.check(True, [around(((column, VALUE),)) for column in NUMBERS_0_TO_4])
        self.check(False, [around(((column, VALUE),)) for column in WRONG_NUMBERS_0_TO_4])

    def test_forms_of_settings(self):
        def around(form):
            return ("update", "t", (SETTING, (1, form)), ())

        self.check(True, [around(("value", value)) for value in VALUES])
        self.check(False, [around(("value", value)) for value in WRONG_VALUES])
        self.check(True, [around(("plus", number)) for number in [0, -1, 5, LARGE - 1, 1 - LARGE]])
        self.check(False, [around(("plus", wrong)) for wrong in [LARGE, -LARGE, True, False, None, "", "1", (), (1,)]])
        self.check(True, [around(("column", index)) for index in NUMBERS_0_TO_4])
        self.check(False, [around(("column", index)) for index in WRONG_NUMBERS_0_TO_4])
        self.check(False, [around(wrong) for wrong in NOT_TUPLES])
        self.check(False, [around(wrong) for wrong in [
            (), ("value",), ("plus",), ("column",), ("value", 1, 1), ("plus", 1, 1), COLUMN, ("column", 0, 0),
            ("minus", 1), (None, 1), (True, 1), (("plus",), 1), ("Plus", 1),
        ]])

    def test_sources(self):
        def around(sources):
            return ("select", ("count",), sources, ())

        self.check(True, [around((SOURCE,)), around((SOURCE, SOURCE)), around((("a", "t"), ("b", "t")))])
        self.check(False, [around(()), around((SOURCE,) * 3), around(SOURCE), around(((),))])
        self.check(False, [around(wrong) for wrong in NOT_TUPLES])
        self.check(False, [around((SOURCE, wrong)) for wrong in NOT_TUPLES + [("a",), ("a", "t", "u"), ()]])
        for at in range(2):
            self.check(True, [around((SOURCE[:at] + (name,) + SOURCE[at + 1:],)) for name in NAMES])
            self.check(False, [around((SOURCE[:at] + (name,) + SOURCE[at + 1:],)) for name in WRONG_NAMES])
            self.check(False, [around((SOURCE, SOURCE[:at] + (name,) + SOURCE[at + 1:])) for name in WRONG_NAMES])

    def test_outputs(self):
        def around(output):
            return ("select", output, (SOURCE,), ())

        self.check(True, [around(("rows", (COLUMN,) * many)) for many in range(1, 7)])
        self.check(False, [around(("rows", ())), around(("rows", (COLUMN,) * 7)), around(("rows", COLUMN))])
        self.check_operands(lambda operand: around(("sum", operand)))
        self.check_operands(lambda operand: around(("rows", (operand,))))
        self.check_operands(lambda operand: around(("rows", (COLUMN, VALUE, operand))))
        self.check(False, [around(wrong) for wrong in NOT_TUPLES])
        self.check(False, [around(("rows", wrong)) for wrong in NOT_TUPLES])
        self.check(False, [around(wrong) for wrong in [
            (), ("counts",), ("count", COLUMN), ("sum",), ("sum", COLUMN, COLUMN), ("rows",), ("rows", (COLUMN,), 0),
            (None,), (True,), (0, COLUMN), (("count",),), ("Sum", COLUMN), ("max", COLUMN), COLUMN, VALUE,
        ]])

    def test_places_and_owners(self):
        self.check(True, [("replace", place, 1) for place in range(10)])
        self.check(False, [("replace", place, 1) for place in [-1, 10, 11, True, False, None, "1", (), (1,)]])
        self.check(True, [("replace", 1, owner) for owner in [1, 2, 998, 999]])
        self.check(False, [("replace", 1, owner) for owner in [0, -1, 1000, True, None, "1", (), (1,), 10 ** 50]])

    def test_values_of_any_kind(self):
        self.check(False, [None, True, False, 0, 1, "", "drop", "ab", (), ((),), (("drop", "t"),), nested(100000)])
        for wrong in STRANGE:
            self.assertIs(is_statement(wrong), False)
            for value in GOOD:
                for changed in replaced_everywhere(value, wrong):
                    self.assertIs(is_statement(changed), False)

    def test_lists_in_the_place_of_tuples(self):
        for value in GOOD:
            for path_value in lists_everywhere(value):
                self.assertIs(is_statement(path_value), False, path_value)

    def test_booleans_in_the_place_of_integers(self):
        for value in GOOD:
            for changed in replaced_everywhere(value, True):
                self.assertIs(is_statement(changed), False, changed)


def replaced_everywhere(value, wrong):
    """The value with each of its parts, at every depth, replaced by a wrong one."""
    for at, part in enumerate(value):
        yield value[:at] + (wrong,) + value[at + 1:]
        if isinstance(part, tuple):
            for inner in replaced_everywhere(part, wrong):
                yield value[:at] + (inner,) + value[at + 1:]


def lists_everywhere(value):
    """The value with each tuple in it, one at a time, replaced by a list."""
    yield list(value)
    for at, part in enumerate(value):
        if isinstance(part, tuple):
            for inner in lists_everywhere(part):
                yield value[:at] + (inner,) + value[at + 1:]


if __name__ == "__main__":
    unittest.main()
