"""What statements answer and change."""

from trothbase.forms import INTEGER_BOUND
from trothbase.names import is_integer
from trothbase.queries import (
    choices, kind_of, kinds_of, meets, output_problem, output_value, places_of, query_problem, rows_of, table_of,
)


def say(look, statement, session, founder):
    """The pair of the answer and the changes of a statement that a session says."""
    match statement:
        case ("create", table, kinds, keys):
            return _create(look, table, kinds, keys)
        case ("drop", table):
            return _drop(look, table)
        case ("insert", table, row):
            return _insert(look, table, row)
        case ("delete", table, conditions):
            return _delete(look, table, conditions)
        case ("update", table, settings, conditions):
            return _update(look, table, settings, conditions)
        case ("select", output, sources, conditions):
            return _select(look, output, sources, conditions)
        case ("replace", place, owner):
            return _replace(look, place, owner, session == founder)


def _answer(value, changes):
    return ("answer", value), changes


def _problem(problem):
    return ("problem", problem), {}


def _create(look, table, kinds, keys):
    if table_of(look, table) is not None:
        return _problem(("exists", table))
    return _answer(True, {(0, table): (kinds, keys)})


def _drop(look, table):
    if table_of(look, table) is None:
        return _problem(("no table", table))
    rows = rows_of(look, table)
    changes = {key: None for key, _ in rows}
    changes[(0, table)] = None
    return _answer(len(rows), changes)


def _insert(look, table, row):
    known = table_of(look, table)
    if known is None:
        return _problem(("no table", table))
    kinds, keys = known
    if len(row) != len(kinds):
        return _problem(("width", table))
    for column, value in enumerate(row):
        if kind_of(value) != kinds[column]:
            return _problem(("kind", column))
    key = (1, table, *row[:keys])
    if look.get(key) is not None:
        return _problem(("key", table))
    return _answer(True, {key: row[keys:]})


def _met(look, table, conditions):
    """The rows of a table, with their keys, that meet conditions."""
    return [(key, row) for key, row in rows_of(look, table) if meets({table: row}, conditions)]


def _delete(look, table, conditions):
    problem = query_problem(look, ((table, table),), conditions)
    if problem is not None:
        return _problem(problem)
    met = _met(look, table, conditions)
    return _answer(len(met), {key: None for key, _ in met})


def _update(look, table, settings, conditions):
    problem = query_problem(look, ((table, table),), conditions)
    if problem is None:
        problem = _settings_problem(table, table_of(look, table), settings)
    if problem is not None:
        return _problem(problem)
    met = [(key, _set_row(row, settings)) for key, row in _met(look, table, conditions)]
    if any([_is_large(row[column]) for _, row in met for column, _ in settings]):
        return _problem(("large",))
    _, keys = table_of(look, table)
    return _answer(len(met), {key: row[keys:] for key, row in met})


def _settings_problem(table, known, settings):
    """The first problem of settings for a table with its kinds and keys, or None."""
    for at, (column, form) in enumerate(settings):
        earlier = [other for other, _ in settings[:at]]
        problem = _setting_problem(table, known, earlier, column, form)
        if problem is not None:
            return problem
    return None


def _setting_problem(table, known, earlier, column, form):
    kinds, keys = known
    if column >= len(kinds):
        return ("column", table, column)
    if column < keys:
        return ("key", table)
    if column in earlier:
        return ("twice", column)
    if form[0] == "column" and form[1] >= len(kinds):
        return ("column", table, form[1])
    if _set_kind(kinds, form) != kinds[column]:
        return ("set", column)
    return None


def _set_kind(kinds, form):
    """The kind of what is set by a form, whose index is one of a column."""
    match form:
        case ("column", index):
            return kinds[index]
        case (_, value):
            return kind_of(value)


def _set_row(row, settings):
    """A row behind all settings, each of which goes by the row as it was."""
    values = list(row)
    for column, form in settings:
        match form:
            case ("column", index):
                values[column] = row[index]
            case ("plus", number):
                values[column] = row[column] + number
            case (_, value):
                values[column] = value
    return tuple(values)


def _is_large(value):
    return is_integer(value) and abs(value) >= INTEGER_BOUND


def _select(look, output, sources, conditions):
    problem = query_problem(look, sources, conditions)
    if problem is None:
        problem = output_problem(kinds_of(look, sources), output)
    if problem is not None:
        return _problem(problem)
    return _answer(output_value(choices(look, sources, conditions), output), {})


def _replace(look, place, owner, is_founder):
    if not is_founder:
        return _problem(("founder",))
    places = places_of(look)
    if place not in [number for number, _ in places]:
        return _problem(("place", place))
    if owner in [other for _, other in places]:
        return _problem(("owner", owner))
    return _answer(True, {(3, place): owner})
