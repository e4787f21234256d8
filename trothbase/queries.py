"""What statements ask of the map: tables, rows, sources, conditions and outputs."""

from trothbase.names import is_integer
from trothbase.trees import merged, order


class Look:
    """A tree with changes over it, a dict in which None takes an entry away."""

    def __init__(self, tree, changes):
        self._tree = tree
        self._changes = {key: changes[key] for key in changes}

    def get(self, key):
        """The value of a key, or None."""
        if key in self._changes:
            return self._changes[key]
        return self._tree.get(key)

    def scan(self, low, high):
        """The list of the entries from low on before high."""
        start = order(low)
        end = order(high)
        changes = [(key, value) for key, value in self._changes.items() if start <= order(key) < end]
        return merged(self._tree.scan(low, high), changes)


def table_of(look, table):
    """The pair of the kinds of a table and the number of its key columns, or None."""
    return look.get((0, table))


def rows_of(look, table):
    """The pairs of the key and all values of each row of a table, in order."""
    return [(key, key[2:] + rest) for key, rest in look.scan((1, table), (1, table + " "))]


def places_of(look):
    """The pairs of each place and its owner, in order; takes a Look or a Tree."""
    return [(key[1], owner) for key, owner in look.scan((3,), (4,))]


def kind_of(value):
    """The kind of a value of a row."""
    return "integer" if is_integer(value) else "text"


def query_problem(look, sources, conditions):
    """The first problem of sources and conditions, or None."""
    for _, table in sources:
        if table_of(look, table) is None:
            return ("no table", table)
    aliases = [alias for alias, _ in sources]
    if len(aliases) == 2 and aliases[0] == aliases[1]:
        return ("alias", aliases[0])
    kinds = kinds_of(look, sources)
    for number, (_, first, second) in enumerate(conditions):
        problem = operands_problem(kinds, (first, second))
        if problem is not None:
            return problem
        if operand_kind(kinds, first) != operand_kind(kinds, second):
            return ("compare", number)
    return None


def kinds_of(look, sources):
    """The dict of the kinds of the columns of each source, by its alias."""
    return {alias: table_of(look, table)[0] for alias, table in sources}


def operands_problem(kinds, operands):
    """The first problem of operands, or None."""
    for operand in operands:
        match operand:
            case ("column", alias, index):
                if alias not in kinds:
                    return ("alias", alias)
                if index >= len(kinds[alias]):
                    return ("column", alias, index)
    return None


def operand_kind(kinds, operand):
    """The kind of an operand that has no problem."""
    match operand:
        case ("column", alias, index):
            return kinds[alias][index]
        case (_, value):
            return kind_of(value)


def choices(look, sources, conditions):
    """The choices that meet conditions, in order: dicts of rows by aliases."""
    found = [{}]
    aliases = []
    for alias, table in sources:
        aliases.append(alias)
        rows = [row for _, row in rows_of(look, table)]
        # What is already told by the first source need not be asked again for
        # each pair with a row of the second.
        found = _joined(found, alias, rows, _told_by(aliases, conditions))
    return found


def _joined(found, alias, rows, conditions):
    """The choices with each row as that of one more source, if they meet conditions."""
    joined = []
    for choice in found:
        for row in rows:
            wider = {**choice, alias: row}
            if meets(wider, conditions):
                joined.append(wider)
    return joined


def _told_by(aliases, conditions):
    """The conditions that ask for no other aliases."""
    return [
        (operator, first, second) for operator, first, second in conditions
        if all([operand[0] == "value" or operand[1] in aliases for operand in (first, second)])
    ]


def meets(choice, conditions):
    """Whether all comparisons hold for a choice."""
    for operator, first, second in conditions:
        if not _holds(operator, operand_value(choice, first), operand_value(choice, second)):
            return False
    return True


def operand_value(choice, operand):
    """The value of an operand for a choice."""
    match operand:
        case ("column", alias, index):
            return choice[alias][index]
        case (_, value):
            return value


def _holds(operator, one, other):
    match operator:
        case "=":
            return one == other
        case "<>":
            return one != other
        case "<":
            return one < other
        case _:
            return one <= other


def output_problem(kinds, output):
    """The first problem of an output, or None."""
    match output:
        case ("sum", operand):
            problem = operands_problem(kinds, (operand,))
            if problem is None and operand_kind(kinds, operand) != "integer":
                return ("sum",)
            return problem
        case ("rows", operands):
            return operands_problem(kinds, operands)
        case _:
            return None


def output_value(found, output):
    """What an output tells of the choices that meet the conditions."""
    match output:
        case ("sum", operand):
            return sum([operand_value(choice, operand) for choice in found])
        case ("rows", operands):
            return tuple([tuple([operand_value(choice, each) for each in operands]) for choice in found])
        case _:
            return len(found)
