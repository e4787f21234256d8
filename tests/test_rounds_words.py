import unittest

from assembly import RoundsTest
from test_heads import ANYTHING, NO_COUNTS, NO_OWNERS, other_lengths, with_part
from test_names import STRANGE, nested
from towns import CREATED, FOUNDER, Town

NO_INTEGERS = [True, False, None, "", "1", (), (1,)]


class WordsTest(RoundsTest):
    def check_heard(self, *words):
        """Each of the words is taken once."""
        for word in words:
            before = self.rounds.words()
            self.assertIs(self.rounds.hear(word), True, word)
            self.assertIs(self.rounds.hear(word), False, word)
            if word[0] == "sealed":
                self.assertEqual(self.rounds.words(), [*before, word])

    def check_not_heard(self, *words):
        before = self.rounds.words()
        for word in words:
            self.assertIs(self.rounds.hear(word), False, word)
        self.assertEqual(self.rounds.words(), before)

    def sealed(self, owner, *bodies):
        return [self.town.seal(owner, body) for body in bodies]


class VoteWordsTest(WordsTest):
    def test_votes_for_names_and_for_none(self):
        for kind in ("prevote", "precommit"):
            for owner in self.owners:
                for number in (0, 1, 2, 10 ** 60 - 1):
                    for name in (None, 1, 2, 7, 10 ** 60 - 1):
                        self.check_heard(self.vote(owner, kind, number, name))

    def test_heights(self):
        for kind in ("prevote", "precommit"):
            self.check_not_heard(*self.sealed(12, *[(kind, height, 0, 5) for height in [0, 2, -1, 7, *NO_INTEGERS, (1,)]]))
        town = Town()
        (header, _), tree = town.head(town.header(), town.tree(), ())
        self.meet(town=town, header=header, tree=tree)
        self.check_not_heard(*self.sealed(12, ("prevote", 1, 0, 5), ("precommit", 3, 0, None), ("prevote", True, 0, 5)))
        self.check_heard(*self.sealed(12, ("prevote", 2, 0, 5), ("precommit", 2, 0, None)))

    def test_heights_that_are_booleans(self):
        self.check_not_heard(*self.sealed(12, ("prevote", True, 0, 5), ("precommit", True, 0, 5)))

    def test_rounds(self):
        for kind in ("prevote", "precommit"):
            self.check_not_heard(*self.sealed(12, *[(kind, 1, number, 5) for number in NO_COUNTS]))

    def test_names(self):
        for kind in ("prevote", "precommit"):
            wrong = [0, *[name for name in NO_COUNTS if name is not None]]
            self.check_not_heard(*self.sealed(12, *[(kind, 1, 0, name) for name in wrong]))

    def test_other_owners(self):
        for owner in (10, 15, 1, 999, FOUNDER, 2000):
            self.check_not_heard(*self.sealed(owner, ("prevote", 1, 0, 5), ("precommit", 1, 0, None)))

    def test_booleans_as_owners(self):
        for owner in (1, True):
            town = Town()
            town.founding = ("founding", (1, 2, 3, 4), FOUNDER)
            self.meet(owner=2, town=town)
            self.town.seal(owner, ("prevote", 1, 0, 5))
            self.check_not_heard(("sealed", True, ("prevote", 1, 0, 5)))
            self.assertIs(self.rounds.hear(("sealed", 1, ("prevote", 1, 0, 5))), owner is not True)

    def test_words_that_are_not_sealed(self):
        self.check_not_heard(*[("sealed", owner, ("prevote", 1, 0, 5)) for owner in self.owners])
        word = self.vote(12, "prevote", 0, 5)
        self.check_not_heard(with_part(word, 1, 13), with_part(word, 2, ("prevote", 1, 0, 6)))
        self.check_not_heard(with_part(word, 2, ("prevote", 1, False, 5)), with_part(word, 2, ("precommit", 1, 0, 5)))
        self.check_heard(word)

    def test_a_word_that_is_sealed_later(self):
        word = ("sealed", 12, ("prevote", 1, 0, 5))
        self.check_not_heard(word)
        self.vote(12, "prevote", 0, 5)
        self.check_heard(word)

    def test_parts_that_are_missing_or_too_many(self):
        for kind in ("prevote", "precommit"):
            bodies = other_lengths((kind, 1, 0, 5))
            self.check_not_heard(*self.sealed(12, *[body for body in bodies if isinstance(body, tuple)], (), ((),), kind))
            self.check_not_heard(*other_lengths(self.vote(12, kind, 0, 5)))

    def test_other_kinds(self):
        kinds = ["Prevote", "vote", "", None, 0, ("prevote",), "commit", "block", "proposal"]
        self.check_not_heard(*self.sealed(12, *[(kind, 1, 0, 5) for kind in kinds]))
        word = self.vote(12, "prevote", 0, 5)
        self.check_not_heard(*[with_part(word, 0, kind) for kind in ["Sealed", "", None, 0, "block"]])

    def test_two_votes_of_one_round(self):
        for kind in ("prevote", "precommit"):
            self.check_heard(*[self.vote(12, kind, 0, name) for name in (5, 6, None)])

    def test_own_words(self):
        self.check_heard(self.vote(11, "prevote", 0, 5), self.vote(11, "precommit", 3, None))

    def test_any_value(self):
        self.check_not_heard(*ANYTHING, *STRANGE, nested(500), ("sealed",), ("block",), ("sealed", 12), ("sealed", 12, ()))
        for strange in STRANGE:
            self.check_not_heard(
                ("sealed", strange, ("prevote", 1, 0, 5)), ("sealed", 12, strange), (strange, 12, ("prevote", 1, 0, 5)),
                ("sealed", 12, ("prevote", 1, 0, strange)), ("sealed", 12, ("prevote", 1, strange, 5)),
                ("sealed", 12, ("prevote", strange, 0, 5)), ("sealed", 12, (strange, 1, 0, 5)),
                ("block", strange, ()), ("block", (), strange),
                ("sealed", 12, ("proposal", 1, 1, strange, (), -1)), ("sealed", 12, ("proposal", 1, 1, (), strange, -1)),
            )


class ProposalWordsTest(WordsTest):
    def setUp(self):
        super().setUp()
        self.some = self.made(self.commit())
        header, block, _ = self.some
        self.body = ("proposal", 1, 0, header, block, -1)

    def test_every_round_has_its_proposer(self):
        for number in range(9):
            body = with_part(self.body, 2, number)
            for owner in (11, 12, 13, 14):
                word = self.town.seal(owner, body)
                if owner == (12, 13, 14, 11)[number % 4]:
                    self.check_heard(word)
                else:
                    self.check_not_heard(word)

    def test_the_proposer_goes_by_the_height_too(self):
        for many, heights in [(4, 5), (7, 8)]:
            town = Town(many)
            header, tree = town.header(), town.tree()
            for height in range(1, heights):
                self.meet(owner=town.owners[0], many=many, town=town, header=header, tree=tree)
                for number in range(many):
                    owner = town.owners[(height + number) % many]
                    made, block, _ = self.made()
                    body = ("proposal", height, number, made, block, -1)
                    self.check_not_heard(*[town.seal(other, body) for other in town.owners if other != owner])
                    self.check_heard(town.seal(owner, body))
                (header, _), tree = town.head(header, tree, ())

    def test_heights(self):
        header, block, _ = self.some
        for height in [0, 2, -1, *NO_INTEGERS]:
            self.check_not_heard(*self.sealed(12, with_part(self.body, 1, height)))
            other = with_part(header, 1, height)
            self.check_not_heard(*self.sealed(12, with_part(self.body, 3, other)))
            self.check_not_heard(*self.sealed(12, ("proposal", height, 0, other, block, -1)))

    def test_rounds(self):
        self.check_not_heard(*self.sealed(12, *[with_part(self.body, 2, number) for number in NO_COUNTS + [-4]]))

    def test_what_is_told_as_before(self):
        for number in (0, 4, 8):
            body = with_part(self.body, 2, number)
            right = [before for before in (-1, 0, 1, 3, 4, 7) if before < number]
            wrong = [number, number + 1, 100, -2, 10 ** 59, -(10 ** 59), *NO_INTEGERS]
            self.check_not_heard(*self.sealed(12, *[with_part(body, 5, before) for before in wrong]))
            self.check_heard(*self.sealed(12, *[with_part(body, 5, before) for before in right]))

    def test_headers_that_are_none(self):
        header, block, _ = self.some
        wrong = [with_part(header, at, part) for at in (2, 3, 4) for part in NO_COUNTS]
        wrong += [with_part(header, 5, owners) for owners in NO_OWNERS]
        wrong += [other for other in other_lengths(header) if isinstance(other, tuple)]
        wrong += [with_part(header, 0, "head"), None, 0, "header", ()]
        self.check_not_heard(*self.sealed(12, *[with_part(self.body, 3, other) for other in wrong]))
        self.check_not_heard(*[("block", other, block) for other in wrong])

    def test_headers_need_not_be_right(self):
        header, _, _ = self.some
        others = [with_part(header, 2, 99), with_part(header, 4, 99), with_part(header, 5, (1, 2, 3, 4, 5, 6, 7))]
        self.check_heard(*self.sealed(12, *[with_part(self.body, 3, other) for other in others]))

    def test_the_block_has_the_name_in_the_header(self):
        header, block, _ = self.some
        for other in [(), (block[0], block[0]), ((),), block[0]]:
            self.check_not_heard(*self.sealed(12, with_part(self.body, 4, other)))
            self.check_not_heard(("block", header, other))
            named = with_part(header, 3, self.registry.name(other))
            self.check_not_heard(*self.sealed(12, with_part(self.body, 3, named)))
            self.check_heard(*self.sealed(12, ("proposal", 1, 0, named, other, -1)))

    def test_a_block_need_not_be_one_that_can_run(self):
        header, _, _ = self.some
        for block in [(1, "a", None), ((),), (True,), tuple(range(30)), ("sealed", 2000, ())]:
            named = with_part(header, 3, self.registry.name(block))
            self.check_heard(*self.sealed(12, ("proposal", 1, 0, named, block, -1)))

    def test_a_block_is_a_tuple(self):
        header, _, _ = self.some
        for block in [None, True, 0, 5, "", "block"]:
            named = with_part(header, 3, self.registry.name(block))
            self.check_not_heard(*self.sealed(12, ("proposal", 1, 0, named, block, -1)))
            self.check_not_heard(("block", named, block))

    def test_the_depth_of_blocks(self):
        header, _, _ = self.some
        for inside in (None, 7):
            for deep, right in [(1, True), (8, True), (19, True), (20, True), (21, False), (22, False), (27, False)]:
                block = nested(deep, inside)
                named = with_part(header, 3, self.registry.name(block))
                word = self.town.seal(12, ("proposal", 1, 0, named, block, -1))
                if right:
                    self.check_heard(word)
                else:
                    self.check_not_heard(word, ("block", named, block))
                self.meet()

    def test_depth_anywhere_in_a_block(self):
        header, _, _ = self.some
        for deep, right in [(19, True), (20, False)]:
            block = (1, (), nested(deep), "a")
            named = with_part(header, 3, self.registry.name(block))
            self.assertIs(self.rounds.hear(("block", named, block)), right)

    def test_other_owners(self):
        self.check_not_heard(*[self.town.seal(owner, self.body) for owner in (11, 13, 14, 15, 999, FOUNDER)])
        self.check_not_heard(("sealed", 12, self.body))

    def test_parts_that_are_missing_or_too_many(self):
        bodies = [body for body in other_lengths(self.body) if isinstance(body, tuple)]
        self.check_not_heard(*self.sealed(12, *bodies))
        self.check_not_heard(*other_lengths(self.town.seal(12, self.body)))

    def test_two_proposals_of_one_round(self):
        header, block, _ = self.made()
        self.check_heard(*self.sealed(12, self.body, ("proposal", 1, 0, header, block, -1)))


class BlockWordsTest(WordsTest):
    def test_a_block_is_known_once(self):
        header, block, _ = self.made(self.commit())
        self.check_heard(("block", header, block))
        self.assertEqual(self.rounds.words(), [])
        self.assertIs(self.rounds.hear(("block", *self.made()[:2])), True)

    def test_a_block_that_is_known_from_a_proposal(self):
        some = self.made(self.commit())
        self.check_heard(self.proposal(0, some))
        self.check_not_heard(("block", some[0], some[1]))

    def test_a_proposal_of_a_known_block(self):
        some = self.made(self.commit())
        self.check_heard(("block", some[0], some[1]), self.proposal(0, some), self.proposal(4, some, 2))

    def test_other_forms(self):
        header, block, _ = self.made(self.commit())
        word = ("block", header, block)
        self.check_not_heard(*other_lengths(word), ("Block", header, block), ("block", block, header), ("sealed", header, block))
        for height in [0, 2, -1, *NO_INTEGERS]:
            self.check_not_heard(("block", with_part(header, 1, height), block))

    def test_wrong_headers_are_known_too(self):
        header, block, _ = self.wrong(self.commit())
        self.check_heard(("block", header, block))

    def test_two_headers_with_one_block(self):
        commit = self.commit()
        for header, block, _ in [self.made(commit), self.wrong(commit)]:
            self.check_heard(("block", header, block))

    def test_commits_are_no_words_of_a_height(self):
        self.check_not_heard(self.commit(), self.town.commit(2000, 1, CREATED))

    def test_a_block_wakes_nobody(self):
        self.meet(owner=12)
        header, block, _ = self.made(self.commit())
        self.hear(("block", header, block))
        self.check_nothing((0, 0))
        self.tick()
        self.check_nothing((0, 0))


class KnownWordsTest(WordsTest):
    def test_words_in_the_order_in_which_they_were_heard(self):
        some = self.made(self.commit())
        words = [
            self.vote(14, "precommit", 3, None), self.vote(12, "prevote", 0, 5), self.proposal(2, some, 1),
            self.vote(13, "prevote", 0, 5), self.proposal(0, some), self.vote(11, "prevote", 1, None),
        ]
        self.assertEqual(self.rounds.words(), [])
        self.hear(*words)
        for word in [*words, ("block", *some[:2])]:
            self.assertIs(self.rounds.hear(word), False)
        self.assertEqual(self.rounds.words(), words)

    def test_the_block_of_the_lock_stands_first(self):
        some, other = self.made(self.commit()), self.made()
        words = [self.vote(12, "prevote", 0, 5), self.vote(11, "precommit", 0, other[2])]
        self.hear(*words)
        self.assertEqual(self.rounds.words(), words)
        self.hear(("block", *some[:2]))
        self.assertEqual(self.rounds.words(), words)
        self.hear(("block", *other[:2]))
        self.assertEqual(self.rounds.words(), [("block", *other[:2]), *words])
        later = self.vote(11, "precommit", 2, some[2])
        self.hear(later)
        self.assertEqual(self.rounds.words(), [("block", *some[:2]), *words, later])
        earlier = [self.vote(11, "precommit", 1, other[2]), self.vote(11, "precommit", 5, None)]
        self.hear(*earlier)
        self.assertEqual(self.rounds.words(), [("block", *some[:2]), *words, later, *earlier])

    def test_the_block_of_a_lock_that_is_known_from_a_proposal(self):
        some = self.wrong(self.commit())
        words = [self.vote(11, "precommit", 0, some[2]), self.proposal(1, some)]
        self.hear(*words)
        self.assertEqual(self.rounds.words(), [("block", *some[:2]), *words])

    def test_the_precommit_of_another_is_no_lock(self):
        some = self.made(self.commit())
        words = [self.proposal(1, some), self.vote(12, "precommit", 0, some[2]), self.vote(11, "prevote", 0, some[2])]
        self.hear(*words)
        self.assertEqual(self.rounds.words(), words)

    def test_a_list_that_the_caller_changes(self):
        word = self.vote(12, "prevote", 0, 5)
        self.hear(word)
        self.rounds.words().clear()
        self.rounds.words().append(1)
        self.assertEqual(self.rounds.words(), [word])


if __name__ == "__main__":
    unittest.main()
