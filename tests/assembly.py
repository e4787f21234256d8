"""The agreement of a height for tests: one Rounds, and words of it that others seal."""

import unittest

from towns import CREATE, FOUNDER, Town
from trothbase.ledger import made_header
from trothbase.rounds import Rounds


class RoundsTest(unittest.TestCase):
    """Tests of a Rounds at height 1, at the house of the owner 11 of four, unless they say otherwise."""

    def setUp(self):
        self.meet()

    def meet(self, owner=11, many=4, town=None, header=None, tree=None):
        """Makes a new Rounds behind a header and its tree, those of the founding if none are told."""
        self.town = town or Town(many)
        self.registry = self.town.registry
        self.header = header or self.town.header()
        self.tree = tree or self.town.tree()
        self.owners = self.header[5]
        self.height = self.header[1] + 1
        self.owner = owner
        self.rounds = Rounds(self.registry, owner, self.header, self.tree, FOUNDER)
        self.pool = []
        return self.rounds

    def again(self, owner=11):
        """Makes a new Rounds at the same height of the same town."""
        return self.meet(owner, town=self.town, header=self.header, tree=self.tree)

    def commit(self, session=FOUNDER, number=1, *statements):
        """A commit that can run."""
        return self.town.told(self.tree, session, number, *(statements or (CREATE,)))

    def made(self, *block):
        """The right header of a block, its block and its name."""
        header, _ = made_header(self.registry, self.header, self.tree, block, FOUNDER)
        return header, block, self.registry.name(header)

    def wrong(self, *block):
        """A header with another root, its block and its name."""
        header, _, _ = self.made(*block)
        header = (*header[:4], header[4] + 1, header[5])
        return header, block, self.registry.name(header)

    def proposer(self, number):
        return self.owners[(self.height + number) % len(self.owners)]

    def proposal(self, number, made, before=-1):
        header, block, _ = made
        return self.town.seal(self.proposer(number), ("proposal", self.height, number, header, block, before))

    def vote(self, owner, kind, number, name):
        return self.town.seal(owner, (kind, self.height, number, name))

    def hear(self, *words):
        for word in words:
            self.assertIs(self.rounds.hear(word), True, word)

    def hear_votes(self, kind, number, name, *owners):
        for owner in owners:
            self.rounds.hear(self.vote(owner, kind, number, name))

    def due(self):
        return self.rounds.due(self.pool)

    def tick(self):
        self.assertIsNone(self.rounds.tick(self.pool))

    def seal(self, found):
        """Lets the agreement hear what was due."""
        self.hear(self.town.seal(self.owner, found[0]))
        return found

    def check_due(self, *body, grounds=None, reason=()):
        """What is due is this body, without the height behind its kind; it is sealed and heard."""
        found = self.due()
        self.assertEqual(found, ((body[0], self.height, *body[1:]), grounds, reason))
        self.assertEqual(self.due(), found)
        self.seal(found)

    def check_nothing(self, stand=None):
        self.assertIsNone(self.due())
        if stand is not None:
            self.assertEqual(self.rounds.stand(), stand)

    def check_decided(self, made, number, *owners):
        self.assertIsNone(self.rounds.decided())
        self.check_nothing()
        header, block, _ = made
        self.assertEqual(self.rounds.decided(), (header, block, ("certificate", number, owners)))
