import random
import unittest

import model
import tables
from test_statements_model import Sayings
from towns import FOUNDER, OWNERS, Town
from trothbase.ledger import chosen, last_number, made_header, run_block, run_commit
from trothbase.names import same

SESSIONS = [FOUNDER, 2000, 2001, 2002]


class LedgerModelTest(unittest.TestCase):
    """Commits that were told on trees of different age, compared with a second telling."""

    def setUp(self):
        self.town = Town()

    def entries(self, base, lasts):
        return {**tables.entries_of(base), **{(2, session): last for session, last in lasts.items()}}

    def told(self, base, statements, session):
        """The items of a transaction, told one after another on a database."""
        items = []
        for statement in statements:
            answer, base, _ = tables.said(base, statement, session, FOUNDER)
            items.append((statement, answer))
        return tuple(items)

    def outcome(self, base, items, session):
        """The outcome of items, and the database and the keys of changes behind them."""
        touched = set()
        now = base
        for index, (statement, told) in enumerate(items):
            answer, now, keys = tables.said(now, statement, session, FOUNDER)
            touched |= keys
            if not same(answer, told):
                return ("refused", index, answer), base, set()
        return ("done",), now, touched

    def run_many(self, seed):
        chance = random.Random(seed)
        sayings = Sayings(chance)
        base, lasts = tables.database(OWNERS[4]), {}
        tree, header, bases, outcomes = self.town.tree(), self.town.header(), [base], []
        for _ in range(25):
            words = []
            for session in chance.sample(SESSIONS, chance.randrange(1, 5)):
                number = lasts.get(session, (0,))[0] + chance.choice([1, 1, 1, 1, 0, 2])
                known = chance.choice(bases[-3:])
                statements = [sayings.statement(known) for _ in range(chance.choice([1, 2, 3, 6, 12]))]
                items = self.told(known, statements, session)
                words.append(self.town.commit(session, number, *items))
            block, before = [], tree
            for word in words:
                session, number, items = word[2][1:]
                if number != lasts.get(session, (0,))[0] + 1:
                    self.assertIsNone(run_block(self.town.registry, tree, (word,), FOUNDER))
                    continue
                block.append(word)
                outcome, behind, touched = self.outcome(base, items, session)
                lasts[session] = (number, outcome)
                tree = self.check(tree, word, outcome, self.entries(behind, lasts), touched)
                base = behind
                outcomes.append(outcome[0])
            bases.append(base)
            self.assertEqual(chosen(self.town.registry, before, words, FOUNDER), tuple(block))
            made, behind = made_header(self.town.registry, header, before, tuple(block), FOUNDER)
            self.assertEqual((made[4], behind.root), (tree.root, tree.root))
            self.assertEqual(made[5], tuple(base["owners"]))
            header = made
        return outcomes

    def check(self, tree, word, outcome, entries, touched):
        found, behind = run_commit(tree, word, FOUNDER)
        self.assertTrue(same(found, outcome), (found, outcome))
        self.assertEqual(dict(behind.scan((0,), (4,))), entries)
        keys = model.sorted_keys(touched | {(2, word[1])})
        self.assertEqual(behind.root, tree.changed([(key, entries.get(key)) for key in keys]).root)
        self.assertEqual(last_number(behind, word[1]), word[2][2])
        return behind

    def test_many_commits(self):
        outcomes = []
        for seed in range(12):
            self.town = Town()
            outcomes += self.run_many(seed)
        self.assertGreater(outcomes.count("done"), 100)
        self.assertGreater(outcomes.count("refused"), 100)


if __name__ == "__main__":
    unittest.main()
