"""The pool, pulses, and owners who get a place and lose one."""

import unittest

from streets import HouseTest, inserts
from towns import CREATE, CREATED, FOUNDER
from trothbase.ledger import made_header

OTHERS = (12, 13, 14)


class PoolTest(HouseTest):
    def setUp(self):
        super().setUp()
        self.house = self.houses[13]

    def hear_all(self, *words):
        for at, word in enumerate(words):
            self.house.hear((12, 9999, 500)[at % 3], word)

    def test_commits_in_the_order_in_which_they_came(self):
        words = [self.town.commit(session, number, CREATED) for session, number in [
            (2001, 1), (2000, 3), (2000, 1), (9999, 7), (FOUNDER, 1), (2000, 2), (2000, 10 ** 59),
        ]]
        self.hear_all(*words)
        self.assertEqual(self.house.pool(), words)
        self.hear_all(*reversed(words))
        self.assertEqual(self.house.pool(), words)

    def test_different_commits_of_one_number(self):
        words = [self.town.commit(2000, 1, (CREATE, told)) for told in [1, True, 0, False, (1,), (True,), None]]
        self.hear_all(*words, *words)
        self.assertEqual([repr(word) for word in self.house.pool()], [repr(word) for word in words])

    def test_what_is_no_commit(self):
        good = self.town.commit(2000, 1, CREATED)
        self.hear_all(
            ("sealed", 2001, ("transaction", 2001, 1, (CREATED,))), ("sealed", 2000, (*good[2], 1)),
            self.town.seal(2000, ("transaction", 2001, 1, (CREATED,))), self.town.seal(2000, ("transaction", 2000, 0, (CREATED,))),
            self.town.seal(2000, ("transaction", 2000, 1, ())), self.town.seal(2000, ("transaction", 2000, True, (CREATED,))),
            self.town.seal(12, ("transaction", 12, 1, (CREATED,))), self.town.seal(2000, ("transaction", 2000, 1, (CREATE,))),
            self.town.seal(2000, ("transaction", 2000, 1, (CREATED,) * 13)), good[2], (*good, 1), good[:2], (good,), [good],
        )
        self.assertEqual(self.house.pool(), [])

    def test_a_commit_that_is_sealed_later(self):
        word = ("sealed", 2000, ("transaction", 2000, 1, (CREATED,)))
        self.hear_all(word)
        self.assertEqual(self.house.pool(), [])
        self.town.seal(2000, word[2])
        self.hear_all(word)
        self.assertEqual(self.house.pool(), [word])

    def test_a_commit_at_a_house_that_only_listens(self):
        self.assertEqual(self.house.hear(9999, self.commit()), [])
        self.assertEqual(self.house.stand(), (1, 0, 0))
        self.assertEqual(self.shelves[13].records(), [self.founding])

    def test_commits_leave_when_their_number_is_passed(self):
        numbers = [(2000, 1), (2000, 2), (2000, 1), (2001, 1), (2001, 5), (FOUNDER, 1)]
        words = [self.town.commit(session, number, (CREATE, at)) for at, (session, number) in enumerate(numbers)]
        self.hear_all(*words)
        for word in (words[0], words[3]):
            self.bring(self.hear(12, 9999, word))
        blocks = [record[2] for record in self.records(13, "block")]
        self.assertEqual(blocks[0], (words[0],))
        self.assertEqual(self.house.pool(), [words[4]])
        passed = [word for block in blocks for word in block]
        self.assertEqual(sorted(words.index(word) for word in passed), [0, 1, 3, 5])
        self.hear_all(*words)
        self.assertEqual(self.house.pool(), [words[4]])

    def test_the_last_number_goes_by_the_height(self):
        self.decide(self.commit())
        self.decide(self.commit(2000, 1, *inserts(0, 2)))
        for owner in self.owners:
            house = self.houses[owner]
            for session, last in [(FOUNDER, 1), (2000, 1), (2001, 0)]:
                for number in range(1, 4):
                    word = self.town.commit(session, number, (CREATE, "late"))
                    before = house.pool()
                    house.hear(9999, word)
                    self.assertEqual(house.pool(), before + [word] * (number > last))

    def test_the_pool_is_not_stored(self):
        self.hear_all(self.commit(2000, 2), self.commit(2001, 1))
        self.assertEqual(len(self.house.pool()), 2)
        self.assertEqual(self.restart(13).pool(), [])


class PulseTest(HouseTest):
    def check_pulse(self, owner, owners, *words):
        self.check_sent(self.houses[owner].pulse(), *[(other, word) for other in owners for word in words])

    def test_a_house_that_knows_nothing(self):
        for owner in self.owners:
            others = [other for other in self.owners if other != owner]
            self.check_pulse(owner, others, ("heads?", 0))

    def test_words_and_the_pool(self):
        house = self.houses[11]
        votes = [self.town.seal(owner, ("prevote", 1, 0, 77)) for owner in (14, 12)]
        words = [self.commit(2000, 2), self.commit(2001, 1)]
        for word in [votes[0], words[0], words[1], votes[1]]:
            house.hear(9999, word)
        for _ in range(2):
            self.check_pulse(11, OTHERS, *votes, *words, ("heads?", 0))
        house.tick()
        own = self.town.seal(11, ("prevote", 1, 0, None))
        self.check_pulse(11, OTHERS, *votes, own, *words, ("heads?", 0))

    def test_the_block_of_its_lock(self):
        commit = self.commit()
        header, _ = made_header(self.registry, self.town.header(), self.town.tree(), (commit,), FOUNDER)
        name = self.registry.name(header)
        words = [self.town.seal(owner, ("prevote", 1, 0, name)) for owner in (12, 13)]
        words.insert(0, self.town.seal(12, ("proposal", 1, 0, header, (commit,), -1)))
        for word in words:
            self.houses[11].hear(9999, word)
        own = [self.town.seal(11, (kind, 1, 0, name)) for kind in ("prevote", "precommit")]
        self.check_pulse(11, OTHERS, ("block", header, (commit,)), words[0], own[0], *words[1:], own[1], ("heads?", 0))

    def test_a_pulse_first_does_what_can_be_done(self):
        house = self.houses[11]
        heads = ("heads", (self.make_due(house),))
        self.check_sent(house.pulse(), *[(owner, heads) for owner in OTHERS], *[(owner, ("heads?", 1)) for owner in OTHERS])
        self.assertEqual(house.height(), 1)

    def test_a_tick_does_what_can_be_done(self):
        house = self.houses[11]
        heads = ("heads", (self.make_due(house),))
        self.check_sent(house.tick(), *[(owner, heads) for owner in OTHERS])
        self.assertEqual(house.height(), 1)

    def test_a_tick_that_finds_nothing(self):
        for owner in self.owners:
            self.assertEqual(self.houses[owner].tick(), [])
            self.assertEqual(self.shelves[owner].records(), [self.founding])

    def test_ticks(self):
        """House 11 alone: each tick is that of a step, and in steps 1 and 2 it needs the words of a quorum."""
        house = self.houses[11]
        house.hear(9999, self.commit())
        vote = self.town.seal(11, ("prevote", 1, 0, None))
        self.check_sent(house.tick(), *[(owner, vote) for owner in OTHERS])
        self.check_sent(house.tick())
        for owner, name in [(12, None), (13, 5)]:
            self.check_sent(house.hear(owner, self.town.seal(owner, ("prevote", 1, 0, name))))
        vote = self.town.seal(11, ("precommit", 1, 0, None))
        self.check_sent(house.tick(), *[(owner, vote) for owner in OTHERS])
        self.check_sent(house.tick())
        self.assertEqual(house.stand(), (1, 0, 2))
        for owner in (12, 13):
            self.check_sent(house.hear(owner, self.town.seal(owner, ("precommit", 1, 0, None))))
        self.check_sent(house.tick())
        self.assertEqual(house.stand(), (1, 1, 0))
        vote = self.town.seal(11, ("prevote", 1, 1, None))
        self.check_sent(house.tick(), *[(owner, vote) for owner in OTHERS])
        self.assertEqual([record[3] for record in self.records(11, "own")], [(), (), ()])

    def test_a_round_that_is_followed(self):
        house = self.houses[11]
        words = [self.town.seal(owner, ("prevote", 1, 2, None)) for owner in (13, 14)]
        self.check_sent(house.hear(13, words[0]))
        self.check_sent(house.hear(14, words[1]))
        self.assertEqual(house.stand(), (1, 2, 0))
        vote = self.town.seal(11, ("prevote", 1, 2, None))
        more = self.town.seal(11, ("precommit", 1, 2, None))
        self.check_sent(house.tick(), *[(owner, word) for word in (vote, more) for owner in OTHERS])
        self.assertEqual(self.records(11, "own"), [
            ("own", vote[2], None, tuple(words)), ("own", more[2], None, tuple(words)),
        ])


class ReplacedTest(HouseTest):
    """House 15 takes the place of 11 at height 2."""

    def setUp(self):
        self.build(more=(15, 16))
        self.word = self.commit(FOUNDER, 1, ("replace", 0, 15), ("replace", 2, 16))

    def test_heads_go_to_the_owners_of_both_heights(self):
        among = (11, 12, 13, 14)
        brought = self.bring(self.hear(12, 9999, self.word), among)
        header, _ = self.houses[11].head()
        self.assertEqual(header[5], (15, 12, 16, 14))
        for owner in among:
            told = [to for to, sender, word in brought if sender == owner and word[0] == "heads" and to in (15, 16)]
            self.assertEqual(told, [15, 16])
            told = [to for to, sender, word in brought if sender == owner and word == ("heads", (self.houses[owner].head(),))]
            # Later ones are answers to words that came too late.
            self.assertEqual(told[:5], [to for to in (11, 12, 13, 14, 15, 16) if to != owner])

    def test_a_town_with_new_owners(self):
        self.bring(self.hear(12, 9999, self.word))
        for owner in (11, 12, 13, 14, 15, 16):
            self.assertEqual(self.houses[owner].height(), 1)
        self.bring(self.hear(16, 9999, self.commit(2000, 1, CREATE)))
        heights = {owner: self.houses[owner].height() for owner in self.houses}
        self.assertEqual(heights, {11: 1, 12: 2, 13: 1, 14: 2, 15: 2, 16: 2})
        for owner in (11, 13):
            self.assertEqual([record[1][1] for record in self.records(owner, "own")], [1, 1])
            sent = self.houses[owner].pulse()
            self.check_sent(sent, *[(other, ("heads?", 1)) for other in (12, 14, 15, 16)])
            self.bring([(to, owner, word) for to, word in sent])
            self.assertEqual(self.houses[owner].height(), 2)
        self.assertEqual(self.entries(11), self.entries(15))

    def test_a_house_without_a_place(self):
        """It listens, follows and decides, and tells who has a place of the height or the next one."""
        house = self.houses[16]
        self.check_sent(house.pulse(), *[(owner, ("heads?", 0)) for owner in self.owners])
        header, _ = made_header(self.registry, self.town.header(), self.town.tree(), (self.word,), FOUNDER)
        name = self.registry.name(header)
        words = [self.town.seal(12, ("proposal", 1, 0, header, (self.word,), -1))]
        words += [self.town.seal(owner, (kind, 1, 0, name)) for kind in ("prevote", "precommit") for owner in (11, 12)]
        words += [self.town.seal(owner, ("prevote", 1, 4, None)) for owner in (13, 14)]
        house.hear(9999, self.word)
        for word in words:
            self.check_sent(house.hear(9999, word))
        self.assertEqual(house.stand(), (1, 4, 0))
        self.check_sent(house.tick())
        self.check_sent(house.pulse(), *[
            (owner, word) for owner in self.owners for word in [*words, self.word, ("heads?", 0)]
        ])
        sent = house.hear(14, self.town.seal(14, ("precommit", 1, 0, name)))
        head = (header, ("certificate", 0, (11, 12, 14)))
        self.check_sent(sent, *[(owner, ("heads", (head,))) for owner in (11, 12, 13, 14, 15)])
        self.assertEqual(self.shelves[16].records(), [self.founding, ("block", header, (self.word,), head[1])])
        self.assertEqual(house.stand(), (2, 0, 0))

    def test_the_row_is_told_to_owners_of_its_last_header(self):
        among = (11, 12, 14)
        self.bring(self.hear(12, 9999, self.word), among)
        self.houses[13].hear(12, ("heads", self.heads(12)))
        row = ("heads", self.heads(12))
        words = [word for to, word in self.houses[13].pulse() if to == 11]
        self.assertEqual(words[-2:], [row, ("heads?", 0)])
        sent = self.houses[13].pulse()
        self.check_sent(sent, *[(owner, word) for owner in (11, 12, 14) for word in words], (15, row), (16, row))

    def test_a_row_in_which_owners_are_replaced_twice(self):
        among = (11, 12, 13, 14)
        self.bring(self.hear(12, 9999, self.word), among)
        header, tree = self.houses[12].head()[0], self.houses[12].tree()
        again = self.town.told(tree, FOUNDER, 2, ("replace", 0, 17), ("replace", 2, 13))
        second, _ = self.town.head(header, tree, (again,))
        self.assertEqual(second[0][5], (17, 12, 13, 14))
        house = self.restart(15)
        house.hear(12, ("heads", (*self.heads(12), second)))
        row = ("heads", (*self.heads(12), second))
        self.assertEqual([to for to, word in house.pulse() if word == row], [11, 12, 13, 14, 17])

    def test_who_is_an_owner_of_the_last_header_itself(self):
        self.bring(self.hear(12, 9999, self.word), (11, 12, 13, 14))
        for owner, others in [(15, (16,)), (16, (15,))]:
            self.houses[owner].hear(12, ("heads", self.heads(12)))
            sent = self.houses[owner].pulse()
            row = ("heads", self.heads(12))
            self.assertEqual([pair for pair in sent if pair[0] in (15, 16)], [(other, row) for other in others])
            self.assertEqual([to for to, word in sent if word == row], [11, 12, 13, 14, *others])


if __name__ == "__main__":
    unittest.main()
