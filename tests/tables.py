"""A second telling of what statements answer, on plain tables.

A database is a dict of the tables, each a dict with its kinds, the number of
its key columns and the list of its rows, and a list of the owners of places.
It is written otherwise than the program, and slowly: all problems of a
statement are told in order, and the first one counts.
"""

import itertools
import operator

import model

SIGNS = {"=": operator.eq, "<>": operator.ne, "<": operator.lt, "<=": operator.le}


def database(owners):
    return {"tables": {}, "owners": list(owners)}


def entries_of(base):
    """The map of a database."""
    entries = {(3, place): owner for place, owner in enumerate(base["owners"])}
    for name, held in base["tables"].items():
        entries[(0, name)] = (held["kinds"], held["keys"])
        for row in held["rows"]:
            entries[(1, name, *row[:held["keys"]])] = row[held["keys"]:]
    return entries


def kind(value):
    return {int: "integer", str: "text"}[type(value)]


def sorted_rows(held):
    by_key = {row[:held["keys"]]: row for row in held["rows"]}
    return [by_key[key] for key in model.sorted_keys(by_key)]


def operand_problems(kinds, operand):
    if operand[0] == "column":
        _, alias, index = operand
        if alias not in kinds:
            yield ("alias", alias)
        elif index not in range(len(kinds[alias])):
            yield ("column", alias, index)


def operand_kind(kinds, operand):
    return kind(operand[1]) if operand[0] == "value" else kinds[operand[1]][operand[2]]


def query_problems(base, sources, conditions):
    for _, name in sources:
        if name not in base["tables"]:
            yield ("no table", name)
            return
    if len({alias for alias, _ in sources}) < len(sources):
        yield ("alias", sources[0][0])
        return
    kinds = {alias: base["tables"][name]["kinds"] for alias, name in sources}
    for number, (_, first, second) in enumerate(conditions):
        before = [*operand_problems(kinds, first), *operand_problems(kinds, second)]
        yield from before
        if not before and operand_kind(kinds, first) != operand_kind(kinds, second):
            yield ("compare", number)


def setting_problems(name, held, settings):
    width = len(held["kinds"])
    for at, (column, form) in enumerate(settings):
        if column >= width:
            yield ("column", name, column)
            continue
        if column < held["keys"]:
            yield ("key", name)
        if column in dict(settings[:at]):
            yield ("twice", column)
        if form[0] == "column" and form[1] >= width:
            yield ("column", name, form[1])
        else:
            given = held["kinds"][form[1]] if form[0] == "column" else kind(form[1])
            if given != held["kinds"][column]:
                yield ("set", column)


def output_problems(kinds, output):
    if output[0] == "sum":
        before = list(operand_problems(kinds, output[1]))
        yield from before
        if not before and operand_kind(kinds, output[1]) == "text":
            yield ("sum",)
    if output[0] == "rows":
        for operand in output[1]:
            yield from operand_problems(kinds, operand)


def problems(base, statement, session, founder):
    """All problems of a statement, in order, at least up to the first one."""
    word, name = statement[0], statement[1]
    held = base["tables"].get(name) if word in ("create", "drop", "insert", "update") else None
    if word == "create" and held:
        yield ("exists", name)
    if word == "drop" and not held:
        yield ("no table", name)
    if word == "insert":
        row = statement[2]
        if not held:
            yield ("no table", name)
            return
        if len(row) != len(held["kinds"]):
            yield ("width", name)
        for at, value in enumerate(row):
            if kind(value) not in held["kinds"][at:at + 1]:
                yield ("kind", at)
        if row[:held["keys"]] in [other[:held["keys"]] for other in held["rows"]]:
            yield ("key", name)
    if word == "delete":
        yield from query_problems(base, ((name, name),), statement[2])
    if word == "update":
        yield from query_problems(base, ((name, name),), statement[3])
        if held:
            yield from setting_problems(name, held, statement[2])
            for row in met(base, name, statement[3]):
                if any(type(value) is int and abs(value) > 10 ** 30 - 1 for value in set_row(row, statement[2])):
                    yield ("large",)
    if word == "select":
        yield from query_problems(base, statement[2], statement[3])
        yield from output_problems({alias: base["tables"][name]["kinds"] for alias, name in statement[2]}, statement[1])
    if word == "replace":
        _, place, owner = statement
        if session != founder:
            yield ("founder",)
        if place >= len(base["owners"]):
            yield ("place", place)
        if owner in base["owners"]:
            yield ("owner", owner)


def pick(rows, operand):
    return operand[1] if operand[0] == "value" else rows[operand[1]][operand[2]]


def chosen_rows(base, sources, conditions):
    tables = [sorted_rows(base["tables"][name]) for _, name in sources]
    for found in itertools.product(*tables):
        rows = {alias: row for (alias, _), row in zip(sources, found)}
        if all(SIGNS[sign](pick(rows, first), pick(rows, second)) for sign, first, second in conditions):
            yield rows


def met(base, name, conditions):
    return [rows[name] for rows in chosen_rows(base, ((name, name),), conditions)]


def set_row(row, settings):
    new = dict(enumerate(row))
    for column, form in settings:
        if form[0] == "value":
            new[column] = form[1]
        elif form[0] == "plus":
            new[column] = form[1] + row[column]
        else:
            new[column] = row[form[1]]
    return tuple(new[at] for at in range(len(row)))


def copied(base):
    tables = {name: {**held, "rows": list(held["rows"])} for name, held in base["tables"].items()}
    return {"tables": tables, "owners": list(base["owners"])}


def said(base, statement, session, founder):
    """The answer, the database behind it, and the keys of the changes."""
    for problem in problems(base, statement, session, founder):
        return ("problem", problem), base, set()
    base = copied(base)
    before = entries_of(base)
    word, name = statement[0], statement[1]
    touched = set()
    value = True
    if word == "create":
        base["tables"][name] = {"kinds": statement[2], "keys": statement[3], "rows": []}
        touched = {(0, name)}
    elif word == "drop":
        value = len(base["tables"].pop(name)["rows"])
    elif word == "insert":
        base["tables"][name]["rows"].append(statement[2])
    elif word == "delete":
        gone = met(base, name, statement[2])
        value = len(gone)
        base["tables"][name]["rows"] = [row for row in base["tables"][name]["rows"] if row not in gone]
    elif word == "update":
        held = base["tables"][name]
        changing = met(base, name, statement[3])
        value = len(changing)
        held["rows"] = [set_row(row, statement[2]) if row in changing else row for row in held["rows"]]
        touched = {(1, name, *row[:held["keys"]]) for row in changing}
    elif word == "select":
        value = selected(base, statement[1], statement[2], statement[3])
    else:
        base["owners"][name] = statement[2]
    after = entries_of(base)
    touched |= {key for key in {*before, *after} if before.get(key) != after.get(key) or (key in before) != (key in after)}
    return ("answer", value), base, touched


def selected(base, output, sources, conditions):
    found = list(chosen_rows(base, sources, conditions))
    if output[0] == "count":
        return len(found)
    if output[0] == "sum":
        return sum(pick(rows, output[1]) for rows in found)
    return tuple(tuple(pick(rows, operand) for operand in output[1]) for rows in found)
