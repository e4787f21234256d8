"""Maps for tests, as dicts from keys to values, and statements said on them."""

import unittest

import model
from trothbase.names import Registry, same
from trothbase.queries import Look
from trothbase.statements import say
from trothbase.trees import empty

FOUNDER = 1000
PLACES = {(3, 0): 11, (3, 1): 12, (3, 2): 13, (3, 3): 14}
# Rows and tables whose names begin like those that tests ask for, or end so.
OTHERS = {
    (0, "s"): (("text",), 1), (1, "s", "z"): (),
    (0, "ta"): (("integer", "integer"), 1), (1, "ta", 0): (7,), (1, "ta", 1): (8,),
    (0, "tt"): (("integer",), 1), (1, "tt", 5): (),
    (2, 2000): (3, ("done",)),
}


def tree_of(registry, entries):
    """The tree of a map."""
    return empty(registry).changed(tuple((key, entries[key]) for key in model.sorted_keys(entries)))


def table(name, kinds, keys, *rows):
    """The entries of a table with all values of its rows; i and t stand for the kinds."""
    entries = {(0, name): (tuple({"i": "integer", "t": "text"}[kind] for kind in kinds), keys)}
    for row in rows:
        entries[(1, name, *row[:keys])] = tuple(row[keys:])
    return entries


def splits(entries):
    """Pairs of a map of a tree and changes over it that make the same map."""
    keys = list(entries)
    stale = {key: 999 if key[0] == 3 else (0,) * len(entries[key]) for key in keys if key[0] in (1, 3)}
    gone = {key + (0,): () for key in keys if key[0] == 1}
    yield entries, {}
    yield {}, dict(entries)
    yield {key: entries[key] for key in keys[::2]}, {key: entries[key] for key in keys[1::2]}
    yield {**entries, **stale, **gone}, {**{key: entries[key] for key in stale}, **{key: None for key in gone}}
    yield entries, {**entries, **{key: None for key in gone}}


class SayingTest(unittest.TestCase):
    """Says statements on maps, with the entries in the tree and over it."""

    def said(self, entries, statement, session=2000, others=True):
        """The answer and the changes, the same however the map is split."""
        whole = {**OTHERS, **PLACES, **entries} if others else entries
        found = []
        for inside, over in splits(whole):
            answer, changes = say(Look(tree_of(Registry(), inside), over), statement, session, FOUNDER)
            found.append((answer, changes))
        for answer, changes in found:
            self.assertTrue(same(answer, found[0][0]), (answer, found[0][0]))
            self.assertEqual(changes, found[0][1])
        return found[0]

    def check(self, entries, statement, value, changes, session=2000):
        answer, found = self.said(entries, statement, session)
        self.assertTrue(same(answer, ("answer", value)), (statement, answer))
        self.assertEqual(found, changes, statement)
        for key, after in changes.items():
            self.assertTrue(same(found[key], after), (key, found[key]))

    def check_problem(self, entries, statement, *problem, session=2000):
        answer, changes = self.said(entries, statement, session)
        self.assertTrue(same(answer, ("problem", problem)), (statement, answer))
        self.assertEqual(changes, {}, statement)
