import unittest

from streets import HouseTest, inserts
from towns import CREATE, FOUNDER
from trothbase.errors import InvalidArgument
from trothbase.house import House
from trothbase.ledger import made_header, run_block
from trothbase.names import Registry
from trothbase.shelf import Shelf


class ExampleTest(HouseTest):
    """The town of the section Examples."""

    def setUp(self):
        super().setUp()
        self.founder = self.session(FOUNDER)
        self.founder.begin()
        word = self.founder.say(CREATE)
        self.assertEqual(word, ("paper?", 0, (CREATE,)))
        ((to, paper),) = self.houses[11].hear(FOUNDER, word)
        self.assertEqual((to, paper[:3]), (FOUNDER, ("paper", 0, (CREATE,))))
        self.assertEqual(self.founder.hear(paper), ("answer", ("answer", True)))
        self.word = self.founder.commit()
        self.made, self.behind = made_header(self.registry, self.town.header(), self.town.tree(), (self.word,), FOUNDER)
        self.name = self.registry.name(self.made)

    def proposal(self):
        return ("sealed", 12, ("proposal", 1, 0, self.made, (self.word,), -1))

    def vote(self, owner, kind):
        return ("sealed", owner, (kind, 1, 0, self.name))

    def test_the_words_one_by_one(self):
        prevotes = {owner: self.vote(owner, "prevote") for owner in self.owners}
        precommits = {owner: self.vote(owner, "precommit") for owner in self.owners}
        self.check_sent(
            self.houses[12].hear(FOUNDER, self.word),
            *[(owner, self.proposal()) for owner in (11, 13, 14)], *[(owner, prevotes[12]) for owner in (11, 13, 14)],
        )
        for own in (11, 13, 14):
            others = [owner for owner in self.owners if owner != own]
            self.assertEqual(self.houses[own].stand(), (1, 0, 0))
            self.check_sent(self.houses[own].hear(12, self.proposal()), *[(owner, prevotes[own]) for owner in others])
            self.assertEqual(self.houses[own].stand(), (1, 0, 1))
        self.check_sent(self.houses[13].hear(12, prevotes[12]))
        self.check_sent(self.houses[13].hear(14, prevotes[14]), *[(owner, precommits[13]) for owner in (11, 12, 14)])
        self.assertEqual(self.houses[13].stand(), (1, 0, 2))
        self.check_sent(self.houses[13].hear(11, prevotes[11]))
        self.check_sent(self.houses[14].hear(12, prevotes[12]))
        self.check_sent(self.houses[14].hear(13, prevotes[13]), *[(owner, precommits[14]) for owner in (11, 12, 13)])
        self.check_sent(self.houses[12].hear(11, prevotes[11]))
        self.check_sent(self.houses[12].hear(13, prevotes[13]), *[(owner, precommits[12]) for owner in (11, 13, 14)])
        self.check_sent(self.houses[13].hear(12, precommits[12]))
        head = (self.made, ("certificate", 0, (12, 13, 14)))
        self.check_sent(
            self.houses[13].hear(14, precommits[14]), *[(owner, ("heads", (head,))) for owner in (11, 12, 14)]
        )
        self.assertEqual(self.houses[13].height(), 1)
        self.assertEqual(self.houses[13].head(), head)
        self.assertEqual(self.houses[13].stand(), (2, 0, 0))
        reason = ()
        self.assertEqual(self.shelves[13].records(), [
            self.founding, ("own", ("prevote", 1, 0, self.name), None, reason),
            ("own", ("precommit", 1, 0, self.name), (self.made, (self.word,), (12, 13, 14)), reason),
            ("block", self.made, (self.word,), head[1]),
        ])
        self.assertEqual(self.shelves[13].pending(), 0)

    def test_all_words_in_the_order_in_which_they_were_sent(self):
        sent = self.hear(12, FOUNDER, self.word)
        self.assertEqual(len(sent), 6)
        self.bring(sent)
        for owner in self.owners:
            house = self.houses[owner]
            self.assertEqual((house.height(), house.stand(), house.pool()), (1, (2, 0, 0), []))
            self.assertEqual(house.head()[0], self.made)
            self.assertEqual(house.tree().root, self.behind.root)
            self.assertEqual(house.tree().visited(), [])
            kinds = [record[0] for record in self.shelves[owner].records()]
            self.assertEqual(kinds, ["founding", "own", "own"] + ["own"] * (owner == 12) + ["block"])
        self.assertEqual([record[1][0] for record in self.records(12, "own")], ["proposal", "prevote", "precommit"])
        head = self.houses[14].head()
        self.assertEqual(self.founder.hear(("heads", (head,))), ("heads", 1))
        words = self.founder.asked()
        self.assertEqual(words, (self.word, ("heads?", 1), ("outcome?", FOUNDER)))
        self.assertEqual(self.houses[11].hear(FOUNDER, words[0]), [])
        self.assertEqual(self.houses[11].hear(FOUNDER, words[1]), [])
        ((to, outcome),) = self.houses[11].hear(FOUNDER, words[2])
        self.assertEqual((to, outcome[:3]), (FOUNDER, ("outcome", 1, FOUNDER)))
        self.assertEqual(self.founder.hear(outcome), ("outcome", ("done",), 1))
        self.assertIsNone(self.founder.asked())

    def test_house_13_sleeps_at_the_next_height(self):
        self.bring(self.hear(12, FOUNDER, self.word))
        for _ in range(2):
            self.assertEqual(self.houses[13].tick(), [])
            self.assertEqual(self.houses[13].stand(), (2, 0, 0))
        sent = self.houses[13].hear(FOUNDER, self.commit(FOUNDER, 2, *inserts(0, 3)))
        self.assertEqual([(to, word[2][0]) for to, word in sent], [
            (11, "proposal"), (12, "proposal"), (14, "proposal"), (11, "prevote"), (12, "prevote"), (14, "prevote"),
        ])


class OpeningTest(HouseTest):
    def test_an_empty_shelf(self):
        shelf = Shelf()
        registry = Registry()
        house = House(registry, registry.pen(11), self.founding, shelf)
        self.assertEqual((shelf.records(), shelf.pending()), ([self.founding], 0))
        self.assertEqual((house.height(), house.stand(), house.pool()), (0, (1, 0, 0), []))
        header, certificate = house.head()
        self.assertEqual(header[:4], ("header", 0, 0, 0))
        self.assertEqual(header[4:], (house.tree().root, (11, 12, 13, 14)))
        self.assertIsNone(certificate)
        self.assertEqual(house.tree().scan((0,), (4,)), [((3, place), 11 + place) for place in range(4)])

    def test_the_shelf_of_the_same_founding(self):
        before = self.shelves[11].records()
        for _ in range(2):
            house = self.start(11)
            self.assertEqual((self.shelves[11].records(), self.shelves[11].losses()), (before, 0))
            self.assertEqual(house.height(), 0)

    def test_the_shelf_of_another_founding(self):
        for first in [
            ("founding", (11, 12, 13, 15), FOUNDER), ("founding", (12, 11, 13, 14), FOUNDER), (1, 2),
            ("founding", (11, 12, 13, 14), 1001), ("founding", (11, 12, 13), FOUNDER), None, 5, "founding",
            ("own", ("prevote", 1, 0, None), None, ()),
        ]:
            shelf = Shelf()
            shelf.append(first)
            shelf.sync()
            shelf.append(self.founding)
            with self.assertRaises(InvalidArgument):
                House(self.registry, self.town.pen(11), self.founding, shelf)
            self.assertEqual((shelf.records(), shelf.pending(), shelf.losses()), ([first, self.founding], 1, 0))

    def test_kinds_in_the_founding(self):
        registry = Registry()
        shelf = Shelf()
        shelf.append(("founding", (True, 2, 3, 4), FOUNDER))
        with self.assertRaises(InvalidArgument):
            House(registry, registry.pen(2), ("founding", (1, 2, 3, 4), FOUNDER), shelf)

    def test_a_house_does_nothing_when_it_is_opened(self):
        self.houses[12].hear(9999, self.commit())
        before = self.shelves[12].records()
        self.assertEqual(len(before), 3)
        self.restart(12)
        self.assertEqual(self.shelves[12].records(), before)
        self.assertEqual(self.houses[12].pool(), [])


class HeightsTest(HouseTest):
    """Several heights, one after another."""

    def grow(self, many=3):
        """The commits of so many heights."""
        words = [self.commit()]
        self.decide(words[0])
        for at in range(many - 1):
            words.append(self.commit(2000, at + 1, *inserts(8 * at, 8 * at + 8)))
            self.decide(words[-1])
        return words

    def test_maps(self):
        words = self.grow()
        tree = self.town.tree()
        for word in words:
            tree = run_block(self.registry, tree, (word,), FOUNDER)
        for owner in self.owners:
            house = self.houses[owner]
            self.assertEqual((house.height(), house.tree().root), (3, tree.root))
            self.assertEqual(self.entries(owner), dict(tree.scan((0,), (4,))))

    def test_heads_are_behind_one_another(self):
        self.grow()
        heads = self.heads(11)
        self.assertEqual([header[1] for header, _ in heads], [1, 2, 3])
        previous = self.town.header()
        for header, _ in heads:
            self.assertEqual(header[2], self.registry.name(previous))
            previous = header
        self.assertEqual(heads[-1], self.houses[11].head())

    def test_the_proposers(self):
        self.grow(5)
        for owner in self.owners:
            proposals = [record[1][1] for record in self.records(owner, "own") if record[1][0] == "proposal"]
            self.assertEqual(proposals, [height for height in range(1, 6) if self.owners[height % 4] == owner])

    def test_several_commits_in_one_block(self):
        words = [self.commit(session, 1) for session in range(2000, 2011)]
        house = self.houses[12]
        for word in words[1:]:
            for owner in (11, 13, 14):
                self.assertEqual(self.houses[owner].hear(1, word), [])
            self.assertEqual(house.hear(1, word)[6:] if word is words[1] else house.hear(1, word), [])
        self.assertEqual(house.pool(), words[1:])

    def test_a_block_has_eight_commits_at_most(self):
        words = [self.commit(session, 1) for session in range(2000, 2011)]
        for owner in (11, 13, 14):
            for word in words:
                self.assertEqual(self.houses[owner].hear(1, word), [])
        self.bring(self.hear(12, 9999, words[0]))
        for owner in self.owners:
            blocks = [record[2] for record in self.records(owner, "block")]
            self.assertEqual(blocks, [(words[0],), tuple(words[1:9]), tuple(words[9:])])
            self.assertEqual(self.houses[owner].pool(), [])

    def test_it_goes_on_with_the_next_height_at_once(self):
        """House 13 proposes at height 2 as soon as it is at height 1."""
        second = self.commit(2000, 1, ("create", "u", ("text",), 1))
        self.houses[13].hear(9999, second)
        first = self.commit()
        self.bring(self.hear(12, 9999, first), (11, 12, 14))
        self.assertEqual([self.houses[owner].height() for owner in self.owners], [1, 1, 0, 1])
        words = [word for _, word in self.houses[12].pulse()]
        self.assertEqual(words, [("heads?", 1)] * 3)
        head = self.houses[11].head()
        for owner in (11, 12, 14):
            self.houses[13].hear(owner, ("sealed", owner, ("precommit", 1, 0, self.registry.name(head[0]))))
        sent = self.houses[13].hear(11, ("block", head[0], (first,)))
        head = self.houses[13].head()
        self.assertEqual(sent[:3], [(owner, ("heads", (head,))) for owner in (11, 12, 14)])
        self.assertEqual([(to, word[2][:3]) for to, word in sent[3:]], [
            (owner, (kind, 2, 0)) for kind in ("proposal", "prevote") for owner in (11, 12, 14)
        ])
        self.assertEqual(sent[3][1][2][4], (second,))

    def test_what_the_tree_is(self):
        self.grow()
        house = self.houses[11]
        first, second = house.tree(), house.tree()
        first.scan((0,), (4,))
        self.assertNotEqual(first.visited(), [])
        self.assertEqual((second.visited(), house.tree().visited()), ([], []))
        self.assertEqual(first.root, house.head()[0][4])

    def test_other_towns(self):
        for many in (7, 10):
            self.build(many)
            self.grow(3)
            for owner in self.owners:
                self.assertEqual(self.houses[owner].height(), 3)
            self.assertEqual(len(self.houses[self.owners[0]].head()[1][2]) >= {7: 5, 10: 7}[many], True)


class ReturnedTest(HouseTest):
    def test_lists_that_the_caller_changes(self):
        house = self.houses[11]
        word = self.commit()
        house.hear(9999, word)
        house.pool().clear()
        house.pool().append(1)
        self.assertEqual(house.pool(), [word])
        for sent in [house.pulse(), house.tick(), house.hear(12, ("heads?", 5)), house.hear(12, 1)]:
            sent.clear()
        self.assertEqual(house.hear(12, ("heads?", 5)), [(12, ("heads?", 0))])
        pages = house.tree().pages()
        pages.clear()
        self.assertEqual(len(house.tree().scan((3,), (4,))), 4)


if __name__ == "__main__":
    unittest.main()
