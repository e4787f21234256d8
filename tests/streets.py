"""Houses for tests: those of all owners of a town, on their shelves, and what they send to one another."""

import unittest

from towns import CREATE, CREATED, FOUNDER, Town
from trothbase.errors import HouseClosed
from trothbase.house import House
from trothbase.names import same
from trothbase.session import Session
from trothbase.shelf import Shelf
from trothbase.trees import Tree

# A sender of words who is an owner of the town, one who is none, and a session.
SENDERS = (12, 14, 500, 2000)


def inserts(low, high):
    """Statements that insert rows into the table t."""
    return tuple(("insert", "t", (key, f"row {key}")) for key in range(low, high))


class HouseTest(unittest.TestCase):
    """Tests of the houses of a town, of four owners unless they say otherwise."""

    def setUp(self):
        self.build()

    def build(self, many=4, more=()):
        self.town = Town(many)
        self.registry = self.town.registry
        self.founding = self.town.founding
        self.owners = self.town.owners
        self.shelves = {}
        self.houses = {}
        self.asked = 0
        for owner in (*self.owners, *more):
            self.shelves[owner] = Shelf()
            self.start(owner)

    def start(self, owner):
        """Opens a house on its shelf."""
        self.houses[owner] = House(self.registry, self.town.pen(owner), self.founding, self.shelves[owner])
        return self.houses[owner]

    def restart(self, owner, kept=0):
        """Power fails at a house, and it is opened again."""
        self.shelves[owner].power(kept)
        self.assertRaises(HouseClosed, self.houses[owner].height)
        return self.start(owner)

    def session(self, owner):
        return Session(self.registry, self.town.pen(owner), self.founding)

    # Commits.

    def tree(self):
        """The tree of the greatest height that a house has reached."""
        return max(self.houses.values(), key=lambda house: house.height()).tree()

    def commit(self, session=FOUNDER, number=1, *statements):
        """A commit of what is told on this tree."""
        return self.town.told(self.tree(), session, number, *(statements or (CREATE,)))

    # Words between houses.

    def bring(self, sent, among=None):
        """Brings words, triples of an owner, a sender and a word, and all that come of them; in order."""
        sent = list(sent)
        brought = []
        while sent:
            to, sender, word = sent.pop(0)
            brought.append((to, sender, word))
            if to in (among or self.houses):
                sent.extend(self.hear(to, sender, word))
        return brought

    def hear(self, to, sender, word):
        return [(other, to, answer) for other, answer in self.houses[to].hear(sender, word)]

    def decide(self, *commits, among=None):
        """Some houses, a quorum, decide on a height with these commits; what was brought."""
        among = list(among or self.houses)
        header = max([self.houses[owner].head()[0] for owner in among], key=lambda header: header[1])
        first = header[5][(header[1] + 1) % len(header[5])]
        first = first if first in among else among[0]
        brought = []
        for commit in commits:
            brought += self.bring(self.hear(first, 9999, commit), among)
        while self.houses[first].height() == header[1]:
            brought += self.bring([(to, owner, word) for owner in among for to, word in self.houses[owner].tick()], among)
            brought += self.bring([(to, owner, word) for owner in among for to, word in self.houses[owner].pulse()], among)
        for owner in among:
            self.assertEqual(self.houses[owner].height(), header[1] + 1)
        return brought

    def make_due(self, house):
        """House 11 can decide on height 1 with its next call, by a seal of which no word tells; the head that is due."""
        body = ("transaction", 3000, 1, (CREATED,))
        block = (("sealed", 3000, body),)
        tree = self.town.tree().changed((((0, "t"), CREATE[2:]), ((2, 3000), (1, ("done",)))))
        numbers = self.registry.name(self.town.header()), self.registry.name(block), tree.root
        header = ("header", 1, *numbers, self.owners)
        self.check_sent(house.hear(12, ("block", header, block)))
        for owner in (12, 13, 14):
            vote = self.town.seal(owner, ("precommit", 1, 0, self.registry.name(header)))
            self.check_sent(house.hear(owner, vote))
        self.assertEqual((house.height(), len(self.shelves[11].records())), (0, 1))
        self.town.seal(3000, body)
        return header, ("certificate", 0, (12, 13, 14))

    # What is looked at.

    def check_sent(self, found, *pairs):
        """What was sent: pairs of an owner and a word, in order."""
        self.assertTrue(same(tuple(found), tuple(pairs)), (found, pairs))
        self.assertIsInstance(found, list)

    def records(self, owner, *kinds):
        """The records of a shelf, or only those of some kinds."""
        return [record for record in self.shelves[owner].records() if not kinds or record[0] in kinds]

    def heads(self, owner):
        """All heads that a house has, from height 1 on."""
        found = self.houses[owner].hear(9999, ("heads?", 0))
        return found[0][1][1] if found and found[0][1][0] == "heads" else ()

    def entries(self, owner):
        """The map of a house."""
        return dict(self.houses[owner].tree().scan((0,), (4,)))

    def reachable(self, root, pages):
        """The names of all pages of a tree that is whole."""
        kind, parts = pages[root]
        below = [self.reachable(name, pages) for _, name in parts] if kind == "node" else []
        return sorted({root}.union(*below))

    def fresh(self, tree):
        """The same tree, of which nothing is visited."""
        return Tree(self.registry, tree.root, tree.pages())

    def all_pages(self, owner):
        """The pages that a house tells of all names that there may be."""
        self.asked += 1
        names = tuple(range(1, self.registry.name(("a new value", self.asked)) + 1))
        found = self.houses[owner].hear(9999, ("pages?", names))
        return {self.registry.name(page): page for page in found[0][1][1]}
