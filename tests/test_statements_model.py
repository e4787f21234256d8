import random
import unittest

import model
import tables
from maps import FOUNDER, tree_of
from trothbase.forms import is_statement
from trothbase.names import Registry, same
from trothbase.queries import Look
from trothbase.statements import say
from trothbase.trees import Tree

LARGE = 10 ** 30
INTEGERS = [-1, 0, 1, 2, 3, LARGE - 1, 1 - LARGE]
TEXTS = ["", "a", "b", "1", "-1"]
TABLES = ["t", "ta", "u"]
ALIASES = ["t", "ta", "u", "x"]
OWNERS = (11, 12, 13, 14)


class Sayings:
    """Makes statements by chance, of which many meet the tables that are there."""

    def __init__(self, chance):
        self.chance = chance

    def one(self, parts):
        return self.chance.choice(parts)

    def value(self, kind):
        if self.chance.random() < 0.05:
            kind = self.one(["integer", "text"])
        return self.one(INTEGERS if kind == "integer" else TEXTS)

    def sources(self, base, many):
        return tuple((self.one(ALIASES), self.table(base)) for _ in range(many))

    def table(self, base):
        return self.one(sorted(base["tables"]) or TABLES) if self.chance.random() < 0.95 else self.one(TABLES)

    def operand(self, known, kind):
        """An operand, mostly a right one of this kind; known are pairs of an alias and its kinds."""
        columns = [(alias, at) for alias, kinds in known for at, own in enumerate(kinds) if own == kind]
        luck = self.chance.random()
        if columns and luck < 0.6:
            return ("column", *self.one(columns))
        if luck < 0.96:
            return ("value", self.value(kind))
        return ("column", self.one(ALIASES), self.chance.randrange(5))

    def known(self, base, sources):
        return [(alias, base["tables"][name]["kinds"]) for alias, name in sources if name in base["tables"]]

    def conditions(self, known):
        many = self.one([0, 0, 1, 1, 2, 3, 6])
        return tuple(self.condition(known, self.one(["integer", "text"])) for _ in range(many))

    def condition(self, known, kind):
        return self.one(["=", "<>", "<", "<=", "<="]), self.operand(known, kind), self.operand(known, kind)

    def setting(self, kinds, keys):
        free = list(range(keys, len(kinds)))
        column = self.one(free) if free and self.chance.random() < 0.9 else self.chance.randrange(5)
        kind = kinds[column] if column < len(kinds) else "text"
        others = [at for at, own in enumerate(kinds) if own == kind]
        forms = [("value", self.value(kind))]
        if others and self.chance.random() < 0.9:
            forms.append(("column", self.one(others)))
        else:
            forms.append(("column", self.chance.randrange(5)))
        if kind == "integer" or self.chance.random() < 0.1:
            forms.append(("plus", self.one([-1, 0, 1, 1, LARGE - 1])))
        return column, self.one(forms)

    def output(self, known):
        word = self.one(["count", "sum", "rows", "rows"])
        if word == "count":
            return ("count",)
        if word == "sum":
            return ("sum", self.operand(known, "integer"))
        many = self.chance.randrange(1, 4)
        return ("rows", tuple(self.operand(known, self.one(["integer", "text"])) for _ in range(many)))

    def create(self, base):
        kinds = tuple(self.one(["integer", "text"]) for _ in range(self.chance.randrange(1, 6)))
        return ("create", self.one(TABLES), kinds, self.chance.randrange(1, len(kinds) + 1))

    def drop(self, base):
        return ("drop", self.one(TABLES))

    def insert(self, base):
        name = self.table(base)
        kinds = base["tables"].get(name, {"kinds": ("text",)})["kinds"]
        row = [self.value(kind) for kind in kinds]
        if self.chance.random() < 0.03:
            row = (row + [0])[:5] if self.chance.random() < 0.5 else row[1:] or [0, 0]
        return ("insert", name, tuple(row))

    def delete(self, base):
        name = self.table(base)
        return ("delete", name, self.conditions(self.known(base, ((name, name),))))

    def update(self, base):
        name = self.table(base)
        held = base["tables"].get(name, {"kinds": ("text", "text"), "keys": 1})
        many = self.one([1, 1, 2, 3])
        settings = tuple(self.setting(held["kinds"], held["keys"]) for _ in range(many))
        return ("update", name, settings, self.conditions(self.known(base, ((name, name),))))

    def select(self, base):
        sources = self.sources(base, self.one([1, 2]))
        known = self.known(base, sources)
        return ("select", self.output(known), sources, self.conditions(known))

    def replace(self, base):
        return ("replace", self.chance.randrange(6), self.chance.randrange(10, 20))

    def statement(self, base):
        makers = [self.create, self.drop, self.delete, self.update, self.update, self.select, self.select, self.replace]
        return self.one(makers + [self.insert] * 8)(base)


class StatementsModelTest(unittest.TestCase):
    """Many statements, compared with what a second telling says of them."""

    def run_many(self, seed, many):
        chance = random.Random(seed)
        sayings = Sayings(chance)
        registry = Registry()
        base = tables.database(OWNERS)
        tree = tree_of(registry, tables.entries_of(base))
        over = {}
        answers = []
        for _ in range(many):
            statement = sayings.statement(base)
            self.assertTrue(is_statement(statement), statement)
            session = FOUNDER if chance.random() < 0.8 else 1001
            answer, changes = say(Look(tree, over), statement, session, FOUNDER)
            told, base, touched = tables.said(base, statement, session, FOUNDER)
            self.assertTrue(same(answer, told), (statement, answer, told))
            entries = tables.entries_of(base)
            self.assertEqual(changes, {key: entries.get(key) for key in touched}, statement)
            answers.append((statement, told))
            over.update(changes)
            if chance.random() < 0.1:
                tree = tree.changed([(key, over[key]) for key in model.sorted_keys(over)])
                over = {}
                self.assertEqual(dict(tree.scan((0,), (4,))), entries)
            self.assertEqual(dict(Look(tree, over).scan((0,), (4,))), entries)
            self.check_enough(registry, tree, over, statement, session, answer)
        return answers

    def check_enough(self, registry, tree, over, statement, session, answer):
        """The visited pages are enough to be told the same again."""
        whole = Tree(registry, tree.root, tree.pages())
        first = say(Look(whole, over), statement, session, FOUNDER)
        pages = {name: page for name, page in tree.pages().items() if name in whole.visited()}
        self.assertEqual(say(Look(Tree(registry, tree.root, pages), over), statement, session, FOUNDER), first)

    def test_many_statements(self):
        found = {}
        for seed in range(30):
            for statement, told in self.run_many(seed, 150):
                what = told[1][0] if told[0] == "problem" else "right"
                found[(statement[0], what)] = found.get((statement[0], what), 0) + 1
        # What is compared is worth something only if all this came about.
        for word in ["create", "drop", "insert", "delete", "update", "select", "replace"]:
            self.assertGreater(found.get((word, "right"), 0), 20, word)
        for word, problems in {
            "create": ["exists"], "drop": ["no table"], "insert": ["width", "kind", "key"],
            "delete": ["no table", "alias", "column", "compare"], "replace": ["founder", "place", "owner"],
            "update": ["no table", "alias", "column", "compare", "key", "twice", "set", "large"],
            "select": ["no table", "alias", "column", "compare"],
        }.items():
            for problem in problems:
                self.assertIn((word, problem), found)


if __name__ == "__main__":
    unittest.main()
