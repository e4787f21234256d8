"""The nine rules of point [29], each alone and two at once, with ticks and patience."""

import unittest

from assembly import RoundsTest
from towns import CREATE, CREATED, FOUNDER, Town
from trothbase.errors import MissingPage
from trothbase.rounds import Rounds
from trothbase.trees import Tree


class AwakeTest(RoundsTest):
    def test_a_house_that_sleeps(self):
        self.meet(owner=12)
        self.check_nothing((0, 0))
        self.tick()
        self.check_nothing((0, 0))
        self.assertIsNone(self.rounds.decided())

    def test_commits_that_cannot_run_wake_nobody(self):
        self.meet(owner=12)
        late = self.commit(2000, 2)
        unsealed = ("sealed", 2001, ("transaction", 2001, 1, (CREATED,)))
        self.pool = [late, unsealed]
        self.check_nothing((0, 0))
        self.tick()
        self.check_nothing((0, 0))
        self.town.seal(2001, unsealed[2])
        header, block, name = self.made(unsealed)
        self.check_due("proposal", 0, header, block, -1)
        self.check_due("prevote", 0, name)

    def test_a_commit_that_can_run_wakes(self):
        self.meet(owner=12)
        self.pool = [self.commit()]
        header, block, _ = self.made(*self.pool)
        self.check_due("proposal", 0, header, block, -1)

    def test_a_refused_commit_can_run(self):
        self.meet(owner=12)
        self.pool = [self.town.commit(2000, 1, (CREATE, ("answer", False)))]
        header, block, _ = self.made(*self.pool)
        self.check_due("proposal", 0, header, block, -1)

    def test_each_kind_of_word_wakes(self):
        for word in ["prevote", "precommit", "proposal"]:
            self.meet(owner=12)
            header, block, _ = self.made()
            if word == "proposal":
                self.hear(self.proposal(5, self.made(self.commit())))
            else:
                self.hear(self.vote(13, word, 5, 7))
            self.check_due("proposal", 0, header, block, -1)

    def test_patience_of_a_house_that_sleeps(self):
        self.tick()
        self.hear(self.vote(13, "prevote", 0, 7))
        self.check_nothing((0, 0))
        self.tick()
        self.check_due("prevote", 0, None)

    def test_the_pool_is_only_read(self):
        self.meet(owner=12)
        self.pool = [self.commit(2000, 2), self.commit(2000, 1), self.commit(2001, 1)]
        before = list(self.pool)
        self.assertIsNotNone(self.due())
        self.tick()
        self.assertEqual(self.pool, before)


class DecidedTest(RoundsTest):
    """Rule 1."""

    def setUp(self):
        super().setUp()
        self.some = self.made(self.commit())

    def test_a_quorum_of_precommits(self):
        self.hear(self.proposal(0, self.some))
        self.check_due("prevote", 0, self.some[2])
        self.hear_votes("precommit", 0, self.some[2], 12, 13)
        self.check_nothing()
        self.assertIsNone(self.rounds.decided())
        self.hear_votes("precommit", 0, self.some[2], 14)
        self.assertIsNone(self.rounds.decided())
        self.check_decided(self.some, 0, 12, 13, 14)

    def test_all_owners_that_are_known(self):
        self.hear(("block", *self.some[:2]))
        self.hear_votes("precommit", 2, self.some[2], 14, 12, 13, 11)
        self.check_decided(self.some, 2, 11, 12, 13, 14)

    def test_what_comes_later_changes_nothing(self):
        self.hear(("block", *self.some[:2]))
        self.hear_votes("precommit", 2, self.some[2], 14, 12, 13)
        self.check_decided(self.some, 2, 12, 13, 14)
        found = self.rounds.decided()
        self.hear_votes("precommit", 2, self.some[2], 11)
        self.hear_votes("precommit", 0, self.some[2], 11, 12, 13)
        self.hear_votes("prevote", 9, None, 11, 12, 13)
        self.tick()
        self.check_nothing((0, 0))
        self.assertEqual(self.rounds.decided(), found)

    def test_the_least_round(self):
        self.hear(("block", *self.some[:2]))
        self.hear_votes("precommit", 3, self.some[2], 11, 12, 13, 14)
        self.hear_votes("precommit", 1, self.some[2], 12, 13)
        self.hear_votes("precommit", 2, self.some[2], 12, 13, 14)
        self.check_decided(self.some, 2, 12, 13, 14)

    def test_the_least_round_goes_before_the_least_name(self):
        made = sorted([self.some, self.made(), self.made(self.commit(2000))], key=lambda one: one[2])
        for number, one in [(3, made[0]), (2, made[2]), (2, made[1]), (4, made[0])]:
            self.hear_votes("precommit", number, one[2], 12, 13, 14)
        for one in made:
            self.hear(("block", *one[:2]))
        self.check_decided(made[1], 2, 12, 13, 14)

    def test_a_header_that_is_not_known_with_its_block(self):
        self.hear_votes("precommit", 0, self.some[2], 12, 13, 14)
        self.check_nothing((0, 0))
        self.assertIsNone(self.rounds.decided())
        self.hear(("block", *self.some[:2]))
        self.check_decided(self.some, 0, 12, 13, 14)

    def test_a_header_that_is_not_right(self):
        wrong = self.wrong(self.commit())
        self.hear(("block", *wrong[:2]))
        self.hear_votes("precommit", 0, wrong[2], 12, 13, 14)
        self.check_nothing((0, 0))
        self.assertIsNone(self.rounds.decided())
        self.hear(("block", *self.some[:2]))
        self.hear_votes("precommit", 4, self.some[2], 12, 13, 14)
        self.check_decided(self.some, 4, 12, 13, 14)

    def test_precommits_in_several_rounds_make_no_quorum(self):
        self.hear(("block", *self.some[:2]))
        self.hear_votes("precommit", 0, self.some[2], 12, 13)
        self.hear_votes("precommit", 1, self.some[2], 14)
        self.hear_votes("prevote", 0, self.some[2], 14)
        self.due()
        self.assertIsNone(self.rounds.decided())

    def test_none_is_not_decided(self):
        self.hear_votes("precommit", 0, None, 12, 13, 14)
        self.check_nothing((0, 0))
        self.assertIsNone(self.rounds.decided())

    def test_quorums_of_seven_and_ten(self):
        for many, least in [(7, 5), (10, 7)]:
            self.meet(owner=500, many=many)
            some = self.made(self.commit())
            self.hear(("block", *some[:2]))
            owners = list(self.owners[:least])
            self.hear_votes("precommit", 1, some[2], *owners[1:], owners[1])
            self.check_nothing()
            self.assertIsNone(self.rounds.decided())
            self.hear_votes("precommit", 1, some[2], owners[0])
            self.check_decided(some, 1, *sorted(owners))

    def test_a_decision_goes_before_all_else(self):
        self.again(12)
        self.hear(("block", *self.some[:2]))
        self.hear_votes("precommit", 1, self.some[2], 11, 13, 14)
        self.hear_votes("prevote", 7, None, 11, 13, 14)
        self.check_decided(self.some, 1, 11, 13, 14)
        self.assertEqual(self.rounds.stand(), (0, 0))


class LateSealTest(RoundsTest):
    """Headers that are right as soon as a commit of their block is sealed."""

    def meet_late(self, owner=11):
        """A header that its block makes as soon as its commit is sealed, the block and the name."""
        self.meet(owner=owner)
        self.body = ("transaction", 2000, 1, (CREATED,))
        block = (("sealed", 2000, self.body),)
        tree = self.tree.changed((((0, "t"), (("integer", "text"), 1)), ((2, 2000), (1, ("done",)))))
        numbers = self.registry.name(self.header), self.registry.name(block), tree.root
        header = ("header", 1, *numbers, self.owners)
        return header, block, self.registry.name(header)

    def test_it_is_not_right_before(self):
        late = self.meet_late()
        self.hear(("block", *late[:2]))
        self.hear_votes("precommit", 0, late[2], 12, 13, 14)
        self.check_nothing((0, 0))
        self.assertIsNone(self.rounds.decided())
        self.town.seal(2000, self.body)
        self.assertEqual(self.made(*late[1]), late)
        self.check_decided(late, 0, 12, 13, 14)

    def test_a_proposal_that_becomes_right(self):
        late = self.meet_late()
        self.hear(self.proposal(0, late))
        self.assertEqual(self.due()[0], ("prevote", 1, 0, None))
        self.town.seal(2000, self.body)
        self.check_due("prevote", 0, late[2])

    def test_a_precommit_when_it_becomes_right(self):
        late = self.meet_late()
        self.hear(self.proposal(0, late))
        self.check_due("prevote", 0, None)
        self.hear_votes("prevote", 0, late[2], 12, 13, 14)
        self.check_nothing((0, 1))
        self.town.seal(2000, self.body)
        self.check_due("precommit", 0, late[2], grounds=(*late[:2], (12, 13, 14)))

    def test_a_proposal_again_when_it_becomes_right(self):
        late = self.meet_late(owner=13)
        self.hear(("block", *late[:2]))
        self.hear_votes("prevote", 0, late[2], 11, 12, 14)
        self.rounds.take(1, ())
        self.assertEqual(self.due()[0], ("proposal", 1, 1, *self.made()[:2], -1))
        self.town.seal(2000, self.body)
        self.check_due("proposal", 1, *late[:2], 0)
        self.check_due("prevote", 1, late[2])


class FollowingTest(RoundsTest):
    """Rule 2."""

    def check_followed(self, number, *reason):
        self.due()
        self.assertEqual(self.rounds.stand(), (number, 0))
        self.tick()
        self.check_due("prevote", number, None, reason=reason)

    def test_words_of_f_owners_are_not_followed(self):
        self.hear(*[self.vote(12, kind, number, None) for kind in ("prevote", "precommit") for number in (1, 2, 5)])
        self.check_nothing((0, 0))

    def test_words_of_f_and_one_owners_are_followed(self):
        first, second = self.vote(12, "prevote", 2, None), self.vote(13, "precommit", 2, 7)
        self.hear(second)
        self.check_nothing((0, 0))
        self.hear(first)
        self.assertEqual(self.rounds.stand(), (0, 0))
        self.check_followed(2, first, second)

    def test_the_greatest_round_that_enough_have_reached(self):
        words = [self.vote(14, "prevote", 9, None), self.vote(13, "prevote", 4, None), self.vote(12, "prevote", 2, None)]
        self.hear(*words)
        self.check_followed(4, words[1], words[0])

    def test_the_least_owners(self):
        words = [self.vote(owner, "prevote", 5, None) for owner in (14, 13, 12)]
        self.hear(*words)
        self.check_followed(5, words[2], words[1])

    def test_the_first_word_of_that_round_or_a_greater_one(self):
        words = [
            self.vote(12, "prevote", 1, None), self.vote(12, "precommit", 6, None), self.vote(12, "prevote", 4, None),
            self.vote(13, "precommit", 4, 5), self.vote(13, "prevote", 4, None), self.vote(12, "prevote", 7, None),
        ]
        self.hear(*words)
        self.check_followed(4, words[1], words[3])

    def test_proposals_count(self):
        words = [self.proposal(1, self.made()), self.proposal(2, self.made())]
        self.hear(*words)
        self.assertEqual(self.due(), (("prevote", 1, 1, self.made()[2]), None, tuple(words)))

    def test_own_words_count(self):
        words = [self.vote(11, "prevote", 2, None), self.vote(14, "prevote", 2, None)]
        self.hear(*words)
        self.check_nothing((2, 1))
        self.tick()
        self.check_nothing((2, 1))
        self.hear_votes("prevote", 2, None, 12)
        self.check_due("precommit", 2, None, reason=tuple(words))

    def test_words_of_the_own_round_are_no_reason_to_go(self):
        self.hear_votes("prevote", 0, None, 12, 13)
        self.check_nothing((0, 0))
        self.hear_votes("prevote", 1, None, 14)
        self.check_nothing((0, 0))

    def test_several_rounds_one_behind_the_other(self):
        for number in (1, 2, 5):
            self.hear(*[self.vote(owner, "prevote", number, owner) for owner in (13, 14)])
            self.check_nothing((number, 0))
            self.hear(self.vote(11, "prevote", number, None))
            self.check_nothing((number, 1))

    def test_seven_and_ten_places(self):
        for many, enough in [(7, 3), (10, 4)]:
            self.meet(owner=500, many=many)
            owners = sorted(self.owners)[:enough]
            words = [self.vote(owner, "prevote", 2, None) for owner in owners]
            self.hear(*words[1:], self.vote(owners[1], "precommit", 3, None))
            self.check_nothing((0, 0))
            self.hear(words[0])
            self.check_nothing((2, 0))

    def test_a_round_that_is_followed_ends_patience(self):
        self.pool = [self.commit()]
        self.tick()
        self.hear_votes("prevote", 1, None, 12, 13)
        self.check_nothing((1, 0))

    def test_it_goes_before_a_proposal(self):
        self.meet(owner=12)
        self.pool = [self.commit()]
        self.hear_votes("prevote", 1, None, 13, 14)
        self.check_nothing((1, 0))
        self.assertEqual([word for word in self.rounds.words() if word[1] == 12], [])


class ProposingTest(RoundsTest):
    """Rule 3."""

    def setUp(self):
        self.meet(owner=14)

    def meet_awake(self, owner=14, number=2):
        self.again(owner)
        self.pool = [self.commit()]
        self.rounds.take(number, ("why",))

    def test_another_does_not_propose(self):
        for number in (0, 1, 3, 4):
            self.meet_awake(number=number)
            self.check_nothing((number, 0))

    def test_the_block_that_is_chosen(self):
        self.meet_awake()
        self.pool = [self.commit(2000, 2), self.commit(2001, 1), self.commit(2000, 1), self.commit(2000, 2)]
        header, block, name = self.made(self.pool[1], self.pool[2], self.pool[3])
        self.check_due("proposal", 2, header, block, -1, reason=("why",))
        self.check_due("prevote", 2, name, reason=("why",))
        self.check_nothing((2, 1))

    def test_an_empty_block(self):
        self.meet_awake()
        self.pool = []
        self.hear(self.vote(11, "prevote", 0, 7))
        self.check_due("proposal", 2, *self.made()[:2], -1, reason=("why",))

    def test_the_header_with_a_quorum_of_prevotes(self):
        self.meet_awake()
        other = self.made()
        self.hear(("block", *other[:2]))
        self.hear_votes("prevote", 0, other[2], 11, 12)
        self.assertEqual(self.due()[0], ("proposal", 1, 2, *self.made(*self.pool)[:2], -1))
        self.hear_votes("prevote", 0, other[2], 13)
        self.check_due("proposal", 2, *other[:2], 0, reason=("why",))
        self.check_due("prevote", 2, other[2], reason=("why",))

    def test_the_greatest_round_and_in_it_the_least_name(self):
        self.meet_awake(number=6)
        made = sorted([self.made(), self.made(self.commit(2000)), self.made(self.commit(2001))], key=lambda one: one[2])
        for number, one in [(1, made[0]), (3, made[2]), (3, made[1]), (2, made[0])]:
            self.hear_votes("prevote", number, one[2], 11, 12, 13)
        for one in made:
            self.hear(("block", *one[:2]))
        self.check_due("proposal", 6, *made[1][:2], 3, reason=("why",))

    def test_the_own_round_and_later_ones_do_not_count(self):
        self.meet_awake()
        self.pool = []
        other = self.made(self.commit())
        self.hear(("block", *other[:2]))
        for number in (2, 3):
            for owner in (11, 12, 13):
                self.hear(self.vote(owner, "prevote", number, other[2]))
                self.rounds.take(2, ("why",))
                if number == 2:
                    self.assertEqual(self.due()[0], ("proposal", 1, 2, *self.made()[:2], -1))

    def test_a_header_that_is_not_right_or_not_known(self):
        self.meet_awake()
        wrong, unknown, right = self.wrong(self.commit()), self.made(self.commit(2000)), self.made(self.commit(2001))
        self.hear(("block", *wrong[:2]), ("block", *right[:2]))
        for one in (wrong, unknown):
            self.hear_votes("prevote", 1, one[2], 11, 12, 13)
        self.assertEqual(self.due()[0], ("proposal", 1, 2, *self.made(*self.pool)[:2], -1))
        self.hear_votes("prevote", 0, right[2], 11, 12, 13)
        self.assertEqual(self.due()[0], ("proposal", 1, 2, *right[:2], 0))
        self.hear(("block", *unknown[:2]))
        self.check_due("proposal", 2, *unknown[:2], 1, reason=("why",))

    def test_precommits_and_none_do_not_count(self):
        self.meet_awake()
        other = self.made()
        self.hear(("block", *other[:2]))
        self.hear_votes("prevote", 0, None, 11, 12, 13)
        self.hear_votes("prevote", 1, other[2], 11, 12)
        self.hear_votes("precommit", 1, other[2], 13)
        self.assertEqual(self.due()[0], ("proposal", 1, 2, *self.made(*self.pool)[:2], -1))

    def test_one_proposal_of_a_round(self):
        self.meet_awake()
        own = self.proposal(2, self.made())
        self.hear(own)
        self.check_due("prevote", 2, self.made()[2], reason=("why",))

    def test_it_goes_before_votes(self):
        self.meet_awake(owner=12, number=0)
        self.tick()
        self.hear_votes("prevote", 0, None, 11, 13, 14)
        some = self.made(*self.pool)
        self.check_due("proposal", 0, *some[:2], -1, reason=("why",))
        self.check_due("prevote", 0, some[2], reason=("why",))
        self.check_due("precommit", 0, None, reason=("why",))

    def test_it_is_sent_in_every_step(self):
        self.meet_awake()
        self.hear(self.vote(14, "prevote", 2, None), self.vote(14, "precommit", 2, None))
        self.check_due("proposal", 2, *self.made(*self.pool)[:2], -1, reason=("why",))
        self.check_nothing((2, 2))


class PrevotingTest(RoundsTest):
    """Rules 4 and 5, and locks."""

    def setUp(self):
        super().setUp()
        self.some, self.other = self.made(self.commit()), self.made(self.commit(2000))

    def test_a_right_proposal(self):
        self.hear(self.proposal(0, self.some))
        self.check_due("prevote", 0, self.some[2])
        self.check_nothing((0, 1))

    def test_a_wrong_proposal(self):
        for wrong in [self.wrong(self.commit()), self.wrong()]:
            self.again()
            self.hear(self.proposal(0, wrong))
            self.check_due("prevote", 0, None)

    def test_headers_with_any_part_wrong(self):
        header, block, _ = self.some
        for at, part in [(2, 99), (4, 99), (5, (11, 12, 13, 15))]:
            self.again()
            other = (*header[:at], part, *header[at + 1:])
            self.hear(self.proposal(0, (other, block, None)))
            self.check_due("prevote", 0, None)

    def test_blocks_that_cannot_run(self):
        header, _, _ = self.some
        commit, second = self.commit(), self.commit(2000, 2)
        for block in [(commit, commit), (second,), (1, "a"), (("sealed", 2001, commit[2]),), tuple([commit] * 9), ((),)]:
            self.again()
            named = (*header[:3], self.registry.name(block), *header[4:])
            self.hear(self.proposal(0, (named, block, None)))
            self.check_due("prevote", 0, None)

    def test_the_first_proposal_that_was_heard_counts(self):
        for first, second in [(self.some, self.other), (self.other, self.some), (self.wrong(), self.some)]:
            self.again()
            self.hear(self.proposal(0, first), self.proposal(0, second))
            self.check_due("prevote", 0, None if first[0] == self.wrong()[0] else first[2])
            self.check_nothing((0, 1))

    def test_the_first_proposal_of_the_round(self):
        self.hear(self.proposal(1, self.other), self.proposal(0, self.some))
        self.check_due("prevote", 0, self.some[2])

    def test_before_without_a_quorum(self):
        self.rounds.take(2, ("why",))
        self.hear(self.proposal(2, self.some, 1))
        self.check_nothing((2, 0))
        self.hear_votes("prevote", 1, self.some[2], 12, 13)
        self.hear_votes("prevote", 0, self.some[2], 14)
        self.hear_votes("prevote", 1, self.other[2], 14)
        self.hear_votes("precommit", 1, self.some[2], 14)
        self.check_nothing((2, 0))
        self.hear_votes("prevote", 1, self.some[2], 11)
        self.check_due("prevote", 2, self.some[2], reason=("why",))

    def test_before_without_a_quorum_until_patience_is_over(self):
        self.rounds.take(2, ("why",))
        self.hear(self.proposal(2, self.some, 1), self.proposal(2, self.some, -1))
        self.check_nothing((2, 0))
        self.tick()
        self.check_due("prevote", 2, None, reason=("why",))

    def test_a_wrong_proposal_with_before(self):
        wrong = self.wrong()
        self.rounds.take(2, ())
        self.hear(self.proposal(2, wrong, 0))
        self.check_nothing((2, 0))
        self.hear_votes("prevote", 0, wrong[2], 12, 13, 14)
        self.check_due("prevote", 2, None)

    def lock(self, number, made):
        self.hear(self.vote(11, "precommit", number, made[2]))

    def test_locks(self):
        """A lock of round 3; the proposal of round 6 has a quorum of prevotes in the round that it tells."""
        for locked, before, is_for in [
            (self.some, -1, True), (self.some, 1, True), (self.some, 3, True), (self.some, 5, True),
            (self.other, -1, False), (self.other, 0, False), (self.other, 2, False),
            (self.other, 3, True), (self.other, 4, True), (self.other, 5, True), (None, -1, True), (None, 2, True),
        ]:
            with self.subTest(locked=locked, before=before):
                self.again()
                if locked is not None:
                    self.lock(3, locked)
                self.rounds.take(6, ())
                self.hear_votes("prevote", before, self.some[2], 12, 13, 14) if before >= 0 else None
                self.hear(self.proposal(6, self.some, before))
                self.check_due("prevote", 6, self.some[2] if is_for else None)

    def test_the_lock_is_that_of_the_greatest_round(self):
        for locks, is_for in [
            ([(0, "other"), (2, "some")], True), ([(2, "some"), (0, "other")], True),
            ([(0, "some"), (2, "other")], False), ([(2, "other"), (0, "some")], False),
        ]:
            self.again()
            for number, which in locks:
                self.lock(number, {"some": self.some, "other": self.other}[which])
            self.hear(self.vote(11, "precommit", 4, None))
            self.rounds.take(5, ())
            self.hear(self.proposal(5, self.some))
            self.check_due("prevote", 5, self.some[2] if is_for else None)

    def test_what_is_no_lock(self):
        self.hear(self.vote(11, "precommit", 0, None), self.vote(12, "precommit", 1, self.other[2]))
        self.hear(self.vote(11, "prevote", 1, self.other[2]))
        self.rounds.take(2, ())
        self.hear(self.proposal(2, self.some))
        self.check_due("prevote", 2, self.some[2])

    def test_a_wrong_header_with_a_lock_on_it(self):
        wrong = self.wrong()
        self.lock(0, wrong)
        self.rounds.take(2, ())
        self.hear(self.proposal(2, wrong))
        self.check_due("prevote", 2, None)

    def test_patience(self):
        self.pool = [self.commit()]
        self.check_nothing((0, 0))
        self.tick()
        self.assertEqual(self.rounds.stand(), (0, 0))
        self.check_due("prevote", 0, None)
        self.check_nothing((0, 1))

    def test_a_proposal_goes_before_patience(self):
        self.pool = [self.commit()]
        self.tick()
        self.hear(self.proposal(0, self.some))
        self.check_due("prevote", 0, self.some[2])

    def test_a_prevote_of_another_round_is_none_of_this(self):
        self.hear(self.vote(11, "prevote", 4, None), self.proposal(0, self.some))
        self.check_due("prevote", 0, self.some[2])


class PrecommittingTest(RoundsTest):
    """Rules 6, 7 and 8."""

    def setUp(self):
        super().setUp()
        self.some, self.other = self.made(self.commit()), self.made(self.commit(2000))
        self.hear(self.proposal(0, self.some))
        self.check_due("prevote", 0, self.some[2])

    def check_precommit(self, made, *owners):
        self.check_due("precommit", 0, made[2], grounds=(*made[:2], owners))
        self.check_nothing((0, 2))

    def test_a_quorum_of_prevotes(self):
        self.hear_votes("prevote", 0, self.some[2], 14)
        self.check_nothing((0, 1))
        self.hear_votes("prevote", 0, self.some[2], 13)
        self.check_precommit(self.some, 11, 13, 14)

    def test_all_owners_that_are_known(self):
        self.hear_votes("prevote", 0, self.some[2], 14, 12, 13)
        self.check_precommit(self.some, 11, 12, 13, 14)

    def test_a_quorum_for_another_header(self):
        self.hear_votes("prevote", 0, self.other[2], 14, 12, 13)
        self.check_nothing((0, 1))
        self.hear(("block", *self.other[:2]))
        self.check_precommit(self.other, 12, 13, 14)

    def test_a_quorum_for_a_wrong_header(self):
        wrong = self.wrong()
        self.hear(("block", *wrong[:2]))
        self.hear_votes("prevote", 0, wrong[2], 14, 12, 13)
        self.check_nothing((0, 1))

    def test_the_least_name(self):
        made = sorted([self.other, self.made(self.commit(2001)), self.made()], key=lambda one: one[2])
        for one in reversed(made):
            self.hear_votes("prevote", 0, one[2], 12, 13, 14)
            self.hear(("block", *one[:2]))
        self.check_precommit(made[0], 12, 13, 14)

    def test_quorums_of_other_rounds(self):
        self.hear_votes("prevote", 1, self.some[2], 12)
        self.hear_votes("prevote", 0, self.some[2], 14)
        self.hear_votes("precommit", 0, self.some[2], 12)
        self.check_nothing((0, 1))

    def test_a_quorum_for_none(self):
        self.hear_votes("prevote", 0, None, 12, 13)
        self.check_nothing((0, 1))
        self.hear_votes("prevote", 0, None, 14)
        self.check_due("precommit", 0, None)
        self.check_nothing((0, 2))

    def test_a_header_goes_before_none(self):
        self.hear_votes("prevote", 0, None, 12, 13, 14)
        self.hear_votes("prevote", 0, self.some[2], 12, 13)
        self.check_precommit(self.some, 11, 12, 13)

    def test_patience_needs_a_quorum_of_prevotes_for_whatever(self):
        self.tick()
        self.check_nothing((0, 1))
        self.hear_votes("prevote", 0, None, 12)
        self.hear_votes("prevote", 0, 99, 12)
        self.hear_votes("precommit", 0, 99, 13)
        self.hear_votes("prevote", 1, 99, 13)
        self.tick()
        self.check_nothing((0, 1))
        self.hear_votes("prevote", 0, 98, 14)
        self.check_nothing((0, 1))
        self.tick()
        self.check_due("precommit", 0, None)

    def test_a_header_goes_before_patience(self):
        self.hear_votes("prevote", 0, None, 12)
        self.hear_votes("prevote", 0, 99, 13)
        self.tick()
        self.hear_votes("prevote", 0, self.some[2], 12, 13)
        self.check_precommit(self.some, 11, 12, 13)

    def test_patience_of_step_0_is_none_of_step_1(self):
        self.again()
        self.pool = [self.commit()]
        self.tick()
        self.hear_votes("prevote", 0, None, 12)
        self.hear_votes("prevote", 0, 99, 13)
        self.hear(self.proposal(0, self.some))
        self.check_due("prevote", 0, self.some[2])
        self.check_nothing((0, 1))

    def test_it_is_not_sent_in_step_0(self):
        self.again()
        self.hear(("block", *self.some[:2]))
        self.hear_votes("prevote", 0, self.some[2], 12, 13, 14)
        self.check_nothing((0, 0))
        self.tick()
        self.check_due("prevote", 0, None)
        self.check_precommit(self.some, 12, 13, 14)

    def test_grounds_and_reason_of_a_later_round(self):
        self.rounds.take(1, ("why",))
        self.hear(self.proposal(1, self.some))
        self.check_due("prevote", 1, self.some[2], reason=("why",))
        self.hear_votes("prevote", 1, self.some[2], 12, 13)
        self.check_due("precommit", 1, self.some[2], grounds=(*self.some[:2], (11, 12, 13)), reason=("why",))


class GivingUpTest(RoundsTest):
    """Rule 9."""

    def setUp(self):
        super().setUp()
        self.hear(self.vote(11, "prevote", 0, None), self.vote(11, "precommit", 0, None))

    def test_patience_needs_a_quorum_of_precommits_for_whatever(self):
        self.tick()
        self.check_nothing((0, 2))
        self.hear_votes("precommit", 0, 99, 12)
        self.hear_votes("precommit", 0, None, 12)
        self.hear_votes("prevote", 0, None, 13, 14)
        self.hear_votes("precommit", 1, None, 13)
        self.tick()
        self.check_nothing((0, 2))
        self.hear_votes("precommit", 0, 98, 13)
        self.check_nothing((0, 2))
        self.tick()
        self.assertEqual(self.rounds.stand(), (0, 2))
        self.check_nothing((1, 0))

    def test_the_next_round_has_no_reason_and_its_own_patience(self):
        self.rounds.take(0, ("why",))
        self.hear_votes("precommit", 0, None, 12, 13)
        self.tick()
        self.check_nothing((1, 0))
        self.check_nothing((1, 0))
        self.tick()
        self.check_due("prevote", 1, None, reason=())

    def test_what_it_does_in_the_next_round_at_once(self):
        some = self.made(self.commit())
        self.hear_votes("precommit", 0, None, 12, 13)
        self.hear(self.proposal(1, some))
        self.tick()
        self.check_due("prevote", 1, some[2])

    def test_the_next_round_is_one_in_which_it_proposes(self):
        self.rounds.take(2, ())
        self.hear(self.vote(11, "prevote", 2, None), self.vote(11, "precommit", 2, None))
        self.hear_votes("precommit", 2, None, 12, 13)
        self.pool = [self.commit()]
        self.tick()
        self.check_due("proposal", 3, *self.made(*self.pool)[:2], -1)

    def test_a_decision_goes_before_patience(self):
        some = self.made(self.commit())
        self.hear_votes("precommit", 0, None, 12, 13)
        self.tick()
        self.hear(("block", *some[:2]))
        self.hear_votes("precommit", 0, some[2], 12, 13, 14)
        self.check_decided(some, 0, 12, 13, 14)

    def test_following_goes_before_patience(self):
        self.hear_votes("precommit", 0, None, 12, 13)
        self.tick()
        words = [self.vote(owner, "prevote", 4, None) for owner in (12, 13)]
        self.hear(*words)
        self.check_nothing((4, 0))
        self.tick()
        self.check_due("prevote", 4, None, reason=tuple(words))


class TakingTest(RoundsTest):
    def test_rounds(self):
        self.pool = [self.commit()]
        for number, stand in [(2, 2), (1, 2), (0, 2), (2, 2), (6, 6), (5, 6)]:
            self.assertIsNone(self.rounds.take(number, ("why", number)))
            self.assertEqual(self.rounds.stand(), (stand, 0))
        self.tick()
        self.check_due("prevote", 6, None, reason=("why", 6))

    def test_the_reason_of_a_lesser_round_is_not_taken(self):
        self.pool = [self.commit()]
        self.rounds.take(2, ("two",))
        self.rounds.take(1, ("one",))
        self.tick()
        self.assertEqual(self.due()[2], ("two",))
        self.rounds.take(2, ("again",))
        self.check_nothing((2, 0))
        self.tick()
        self.assertEqual(self.due()[2], ("again",))

    def test_a_lesser_round_leaves_patience(self):
        self.pool = [self.commit()]
        self.rounds.take(2, ())
        self.tick()
        self.rounds.take(1, ())
        self.check_due("prevote", 2, None)

    def test_the_step_goes_by_what_was_sent_in_the_round(self):
        self.hear(self.vote(11, "prevote", 2, None), self.vote(11, "precommit", 2, None), self.vote(11, "prevote", 4, 5))
        for number, step in [(0, 0), (1, 0), (2, 2), (3, 0), (4, 1), (5, 0)]:
            self.rounds.take(number, ())
            self.assertEqual(self.rounds.stand(), (number, step))

    def test_step_1_needs_a_prevote(self):
        self.hear(self.vote(11, "precommit", 0, None))
        self.assertEqual(self.rounds.stand(), (0, 0))


class WithoutPlaceTest(RoundsTest):
    def setUp(self):
        self.meet(owner=500)
        self.some = self.made(self.commit())

    def test_it_votes_for_nothing(self):
        self.pool = [self.commit()]
        self.hear(self.proposal(0, self.some))
        for _ in range(3):
            self.check_nothing((0, 0))
            self.tick()
        self.hear_votes("prevote", 0, self.some[2], 12, 13, 14)
        self.check_nothing((0, 0))

    def test_it_decides(self):
        self.hear(self.proposal(0, self.some))
        self.hear_votes("precommit", 0, self.some[2], 12, 13, 14)
        self.check_decided(self.some, 0, 12, 13, 14)

    def test_it_follows(self):
        self.hear_votes("prevote", 3, None, 12, 13)
        self.check_nothing((3, 0))
        self.tick()
        self.check_nothing((3, 0))

    def test_its_own_words_are_none(self):
        self.assertIs(self.rounds.hear(self.vote(500, "prevote", 0, None)), False)
        self.assertEqual(self.rounds.words(), [])


class OtherHeightsTest(RoundsTest):
    def test_a_later_height(self):
        town = Town()
        header, tree = town.header(), town.tree()
        for _ in range(2):
            (header, _), tree = town.head(header, tree, ())
        self.meet(owner=14, town=town, header=header, tree=tree)
        self.pool = [self.commit()]
        some = self.made(*self.pool)
        self.assertEqual(some[0][1:3], (3, self.registry.name(header)))
        self.check_due("proposal", 0, *some[:2], -1)
        self.check_due("prevote", 0, some[2])
        self.hear_votes("prevote", 0, some[2], 11, 12)
        self.check_due("precommit", 0, some[2], grounds=(*some[:2], (11, 12, 14)))
        self.hear_votes("precommit", 0, some[2], 11, 13)
        self.check_decided(some, 0, 11, 13, 14)

    def test_owners_of_the_height_before(self):
        town = Town()
        commit = town.told(town.tree(), FOUNDER, 1, ("replace", 0, 15))
        (header, _), tree = town.head(town.header(), town.tree(), (commit,))
        self.meet(owner=15, town=town, header=header, tree=tree)
        self.assertEqual(self.owners, (15, 12, 13, 14))
        self.assertIs(self.rounds.hear(self.vote(11, "prevote", 0, None)), False)
        some = self.made(town.told(tree, 2000, 1, CREATE))
        self.hear(self.proposal(0, some))
        self.check_due("prevote", 0, some[2])

    def test_a_block_that_replaces_an_owner(self):
        some = self.made(self.commit(FOUNDER, 1, ("replace", 0, 15)))
        self.assertEqual(some[0][5], (15, 12, 13, 14))
        self.hear(self.proposal(0, some))
        self.check_due("prevote", 0, some[2])
        self.hear_votes("precommit", 0, some[2], 11, 12, 13)
        self.check_decided(some, 0, 11, 12, 13)


class MissingPagesTest(RoundsTest):
    def test_nothing_changes_if_a_page_is_missing(self):
        self.meet(owner=14)
        commit = self.commit()
        lame = Tree(self.registry, self.tree.root, {})
        self.rounds = Rounds(self.registry, 14, self.header, lame, FOUNDER)
        self.assertRaises(MissingPage, self.rounds.due, [commit])
        self.assertRaises(MissingPage, self.rounds.tick, [commit])
        words = [self.vote(owner, "prevote", 2, None) for owner in (12, 13)]
        self.hear(*words)
        for _ in range(2):
            self.assertRaises(MissingPage, self.rounds.due, [commit])
            self.assertEqual(self.rounds.stand(), (0, 0))
        self.assertEqual(self.rounds.words(), words)


if __name__ == "__main__":
    unittest.main()
