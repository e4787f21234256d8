"""The forms of statements."""

from trothbase.names import is_integer, is_plain
from trothbase.owners import is_owner

KINDS = ("integer", "text")
OPERATORS = ("=", "<>", "<", "<=")
INTEGER_BOUND = 10 ** 30
LONGEST_NAME = 12
LONGEST_TEXT = 40
MOST_COLUMNS = 5
MOST_CONDITIONS = 6
MOST_OPERANDS = 6
LAST_PLACE = 9
PERCENT = 37


def is_statement(value):
    """Whether any value whatever has the form of a statement."""
    # All functions below rely on this: what is plain can be compared safely.
    if not is_plain(value):
        return False
    match value:
        case ("create", table, kinds, keys):
            right = _is_name(table) and _is_all(kinds, 1, MOST_COLUMNS, _is_kind)
            return right and _is_from(keys, 1, len(kinds))
        case ("drop", table):
            return _is_name(table)
        case ("insert", table, row):
            return _is_name(table) and _is_all(row, 1, MOST_COLUMNS, _is_value)
        case ("delete", table, conditions):
            return _is_name(table) and _are_conditions(conditions)
        case ("update", table, settings, conditions):
            right = _is_name(table) and _is_all(settings, 1, MOST_COLUMNS, _is_setting)
            return right and _are_conditions(conditions)
        case ("select", output, sources, conditions):
            right = _is_output(output) and _is_all(sources, 1, 2, _is_source)
            return right and _are_conditions(conditions)
        case ("replace", place, owner):
            return _is_from(place, 0, LAST_PLACE) and is_owner(owner)
        case _:
            return False


def _is_all(parts, least, most, has_form):
    """Whether parts is a tuple of that many parts, all with a form."""
    if not isinstance(parts, tuple) or not least <= len(parts) <= most:
        return False
    return all([has_form(part) for part in parts])


def _is_from(value, least, most):
    return is_integer(value) and least <= value <= most


def _is_name(value):
    if not isinstance(value, str) or not 1 <= len(value) <= LONGEST_NAME:
        return False
    return all(["a" <= letter <= "z" for letter in value])


def _is_kind(value):
    return value in KINDS


def _is_index(value):
    return _is_from(value, 0, MOST_COLUMNS - 1)


def _is_small(value):
    return is_integer(value) and -INTEGER_BOUND < value < INTEGER_BOUND


def _is_text(value):
    if not isinstance(value, str) or len(value) > LONGEST_TEXT:
        return False
    return all([" " <= sign <= "~" and ord(sign) != PERCENT for sign in value])


def _is_value(value):
    return _is_small(value) or _is_text(value)


def _is_source(value):
    return _is_all(value, 2, 2, _is_name)


def _is_operand(value):
    match value:
        case ("value", held):
            return _is_value(held)
        case ("column", alias, index):
            return _is_name(alias) and _is_index(index)
        case _:
            return False


def _is_condition(value):
    match value:
        case (operator, first, second):
            return operator in OPERATORS and _is_operand(first) and _is_operand(second)
        case _:
            return False


def _are_conditions(value):
    return _is_all(value, 0, MOST_CONDITIONS, _is_condition)


def _is_setting(value):
    match value:
        case (column, form):
            return _is_index(column) and _is_setting_form(form)
        case _:
            return False


def _is_setting_form(value):
    match value:
        case ("value", held):
            return _is_value(held)
        case ("plus", number):
            return _is_small(number)
        case ("column", index):
            return _is_index(index)
        case _:
            return False


def _is_output(value):
    match value:
        case ("count",):
            return True
        case ("sum", operand):
            return _is_operand(operand)
        case ("rows", operands):
            return _is_all(operands, 1, MOST_OPERANDS, _is_operand)
        case _:
            return False
