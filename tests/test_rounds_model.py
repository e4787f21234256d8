import random
import unittest

from agreement import Telling
from towns import FOUNDER, Town
from trothbase.ledger import made_header
from trothbase.names import same
from trothbase.rounds import Rounds


class RoundsModelTest(unittest.TestCase):
    """Words by chance, by liars of any number, compared with a second telling."""

    def setting(self, chance, many):
        """A town at height 1 with some right headers, some wrong ones, and one that becomes right later."""
        self.town = town = Town(many)
        head, tree = town.head(town.header(), town.tree(), (town.told(town.tree(), FOUNDER, 1, ("create", "t", ("text",), 1)),))
        self.header = header = head[0]
        commits = [town.told(tree, session, 1, ("insert", "t", (f"{session}",))) for session in (2000, 2001, 2002)]
        items = ((("drop", "t"), ("answer", 0)),)
        late = ("sealed", 2003, ("transaction", 2003, 1, items))
        self.pairs = []
        for block in [(), (commits[0],), tuple(commits), (late,), (commits[1], late)]:
            made, _ = made_header(town.registry, header, tree, block, FOUNDER) or (None, None)
            if made is None:
                made, _ = made_header(town.registry, header, tree, (), FOUNDER)
                made = (*made[:3], town.registry.name(block), *made[4:])
            self.pairs.append((made, block))
        wrong = self.pairs[1][0]
        self.pairs.append(((*wrong[:4], wrong[4] + 1, wrong[5]), self.pairs[1][1]))
        self.pairs.append(((*wrong[:3], town.registry.name((1, "no block")), *wrong[4:]), (1, "no block")))
        self.late = late
        self.pool = commits + [late]
        chance.shuffle(self.pairs)
        return tree

    def settle_late(self, tree):
        """The late commit is sealed, and headers with it are known that are right from then on."""
        self.town.seal(2003, self.late[2])
        for block in [(self.late,), (self.pool[1], self.late)]:
            made, _ = made_header(self.town.registry, self.header, tree, block, FOUNDER)
            self.pairs.append((made, block))

    def word(self, chance, owners, top):
        town, registry = self.town, self.town.registry
        number = chance.randrange(top)
        kind = chance.choice(["proposal", "prevote", "prevote", "precommit", "precommit", "block"])
        header, block = chance.choice(self.pairs[:chance.randrange(1, len(self.pairs) + 1)])
        if kind == "block":
            return ("block", header, block)
        owner = self.header[5][(2 + number) % len(self.header[5])]
        if kind == "proposal" and owner in owners:
            before = chance.choice([-1, -1, number - 1, chance.randrange(-1, number)])
            return town.seal(owner, ("proposal", 2, number, header, block, before))
        name = registry.name(header) if chance.random() < 0.75 else None
        return town.seal(chance.choice(owners), (chance.choice(["prevote", "precommit"]), 2, number, name))

    def words(self, chance, owners, top, telling):
        """A word, one that is known, or the votes of several owners for the same."""
        luck = chance.random()
        if luck < 0.1 and telling.known:
            return [chance.choice(telling.known)]
        if luck < 0.75:
            return [self.word(chance, owners, top)]
        header, block = chance.choice(self.pairs[:3])
        number = chance.choice([telling.number, telling.number, chance.randrange(top)])
        name = self.town.registry.name(header) if chance.random() < 0.8 else None
        kind = chance.choice(["prevote", "prevote", "precommit"])
        some = chance.sample(owners, chance.randrange(len(owners) // 2, len(owners) + 1))
        votes = [self.town.seal(other, (kind, 2, number, name)) for other in some]
        return votes + [("block", header, block)] * chance.randrange(2)

    def run_one(self, seed):
        chance = random.Random(seed)
        many = chance.choice([4, 4, 4, 7, 10])
        tree = self.setting(chance, many)
        owners = self.header[5]
        owner = chance.choice([*owners, *owners, 500])
        own = [self.town.registry, owner, self.header, tree, FOUNDER]
        rounds, telling = Rounds(*own), Telling(*own)
        others = [other for other in owners if other != owner]
        pool, top = [], chance.choice([1, 2, 4])
        told = []
        for at in range(chance.choice([20, 50])):
            luck = chance.random()
            if luck < 0.1:
                pool = chance.sample(self.pool, chance.randrange(len(self.pool) + 1))
            elif luck < 0.25:
                rounds.tick(pool)
                telling.tick(pool)
            elif luck < 0.28:
                number = chance.randrange(3)
                rounds.take(number, ("why", number))
                telling.take(number, ("why", number))
            elif luck < 0.31 and at > 8:
                self.settle_late(tree)
            else:
                for word in self.words(chance, others, top, telling):
                    self.assertIs(rounds.hear(word), telling.hear(word))
            if luck < 0.8:
                told += self.compare(rounds, telling, pool)
        return told

    def compare(self, rounds, telling, pool):
        """Does and seals what is due; the kinds of what was sealed."""
        told = []
        while True:
            self.assertEqual(rounds.stand(), telling.stand())
            found = rounds.due(pool)
            self.assertTrue(found is None or same(found, telling.due(pool)), (found, telling.due(pool)))
            if found is None:
                self.assertIsNone(telling.due(pool))
                break
            self.assertTrue(same(found, rounds.due(pool)))
            word = self.town.seal(telling.owner, found[0])
            self.assertIs(rounds.hear(word), True)
            telling.hear(word)
            told.append((found[0][0], found[0][3] is None, found[1] is None, len(found[2])))
        self.assertEqual(rounds.stand(), telling.stand())
        self.assertEqual(rounds.words(), telling.words())
        self.assertTrue(same(rounds.decided(), telling.end), (rounds.decided(), telling.end))
        return told + ([("decided",)] if telling.end is not None else [])

    def test_many_words(self):
        told = []
        for seed in range(300):
            with self.subTest(seed=seed):
                told += self.run_one(seed)
        for kind in [("prevote", False), ("prevote", True), ("precommit", False), ("precommit", True), ("proposal", False)]:
            self.assertGreater(len([row for row in told if row[:2] == kind]), 30, kind)
        self.assertGreater(told.count(("decided",)), 30)
        self.assertGreater(len([row for row in told if len(row) == 4 and row[3] >= 2]), 30)


if __name__ == "__main__":
    unittest.main()
