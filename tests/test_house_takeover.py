"""Taking over heads and pages, as point [41] tells."""

import unittest

from streets import HouseTest, inserts
from test_heads import with_part
from test_names import STRANGE
from towns import CREATE, CREATED, FOUNDER
from trothbase.ledger import made_header
from trothbase.trees import missing

OTHERS = (12, 13, 14)


class TakeOverTest(HouseTest):
    """House 11 is behind the others."""

    def setUp(self):
        super().setUp()
        self.house = self.houses[11]
        self.trees = [self.house.tree()]

    def grow(self, heights=4, rows=9):
        """The others go on by some heights, each with some rows more."""
        for _ in range(heights):
            height = self.houses[12].height()
            if height == 0:
                self.decide(self.commit(), among=OTHERS)
            else:
                at = height - 1
                self.decide(self.commit(2000, height, *inserts(rows * at, rows * at + rows)), among=OTHERS)
            self.trees.append(self.houses[12].tree())
        self.all_heads = self.heads(12)
        self.known = self.all_pages(12)

    def root(self, height):
        return self.trees[height].root

    def has(self):
        return self.all_pages(11)

    def lacking(self, *heights, kept=()):
        """The names of the pages that house 11 misses for some heights, with some that it kept."""
        pages = {**self.has(), **{name: self.known[name] for name in kept}}
        return tuple(sorted({name for height in heights for name in missing(self.registry, self.root(height), pages)}))

    def pages(self, names):
        return ("pages", tuple(self.known[name] for name in names))

    def hear_heads(self, sender, *heights):
        return self.house.hear(sender, ("heads", tuple(self.all_heads[height - 1] for height in heights)))

    def fetch(self, sent, sender=12):
        """House 11 is told all pages for which it asks, until it asks no more."""
        while sent and sent[0][1][0] == "pages?":
            self.assertEqual(sent[0][0], sender)
            sent = self.house.hear(sender, self.pages(sent[0][1][1]))
        return sent

    def check_state(self, low, high, before):
        """The last record tells the heads of these heights, and the pages of the last that were not there before."""
        names = [name for name in self.reachable(self.root(high), self.known) if name not in before]
        record = ("state", self.all_heads[low - 1:high], tuple(self.known[name] for name in names))
        self.assertEqual(self.records(11)[-1], record)
        self.assertEqual(self.shelves[11].pending(), 0)
        self.assertEqual((self.house.height(), self.house.head()), (high, self.all_heads[high - 1]))
        self.assertEqual(self.house.stand(), (high + 1, 0, 0))
        self.assertEqual(self.house.tree().root, self.root(high))
        self.assertEqual(dict(self.house.tree().scan((0,), (4,))), dict(self.trees[high].scan((0,), (4,))))
        self.assertEqual(self.has(), {**before, **{name: self.known[name] for name in names}})

    def check_row(self, *heights):
        """The row, as a pulse tells it."""
        words = [word for to, word in self.house.pulse() if to == 12 and word[0] == "heads"]
        told = tuple(self.all_heads[height - 1] for height in heights)
        self.assertEqual(words, [("heads", told)] if told else [])


class HeadsTest(TakeOverTest):
    def test_one_head(self):
        self.grow(1)
        before = self.has()
        self.check_sent(self.hear_heads(12, 1), (12, ("pages?", self.lacking(1))))
        self.assertEqual((self.house.height(), self.records(11)), (0, [self.founding]))
        self.check_row(1)
        self.check_sent(self.house.hear(13, self.pages(self.lacking(1))))
        self.check_state(1, 1, before)
        self.check_row()

    def test_several_heads(self):
        self.grow(4)
        before = self.has()
        sent = self.hear_heads(500, 1, 2, 3, 4)
        self.check_sent(sent, (500, ("pages?", (self.root(4),))))
        self.check_row(1, 2, 3, 4)
        self.check_sent(self.fetch(sent, 500))
        self.check_state(1, 4, before)

    def test_the_sealed_precommits_are_heard(self):
        self.grow(2)
        self.hear_heads(12, 1, 2)
        header, (_, number, owners) = self.all_heads[0]
        self.assertEqual(len(owners), 3)
        words = [word for to, word in self.house.pulse() if to == 12]
        body = ("precommit", 1, number, self.registry.name(header))
        self.assertEqual(words[:3], [("sealed", owner, body) for owner in owners])
        self.assertEqual(words[3:], [("heads", self.all_heads), ("heads?", 0)])

    def test_elder_and_false_heads(self):
        self.grow(4)
        self.fetch(self.hear_heads(12, 1, 2))
        self.assertEqual(self.house.height(), 2)
        for word in [
            (), self.all_heads[:2], self.all_heads[:1], self.all_heads[3:], None, 5, "heads", self.all_heads[2],
            ((self.all_heads[2][0], self.all_heads[3][1]),), (None, *self.all_heads[2:]),
            (with_part(self.all_heads[2], 0, with_part(self.all_heads[2][0], 4, 7)),),
        ]:
            self.check_sent(self.house.hear(12, ("heads", word)))
            self.check_row()
        self.check_sent(self.hear_heads(12, 1, 2, 3), (12, ("pages?", self.lacking(3))))
        self.check_row(3)

    def test_heads_that_are_followed_by_something_else(self):
        self.grow(3)
        heads = (*self.all_heads[:2], None, self.all_heads[2])
        self.check_sent(self.house.hear(12, ("heads", heads)), (12, ("pages?", self.lacking(2))))
        self.check_row(1, 2)

    def test_more_heads_take_the_place_of_the_row(self):
        self.grow(4)
        self.hear_heads(12, 1, 2)
        self.check_row(1, 2)
        self.check_sent(self.hear_heads(13, 1), (13, ("pages?", self.lacking(1, 2))))
        self.check_row(1, 2)
        self.check_sent(self.hear_heads(14, 1, 2, 3), (14, ("pages?", self.lacking(1, 2, 3))))
        self.check_row(1, 2, 3)
        self.check_sent(self.hear_heads(14, 1, 2), (14, ("pages?", self.lacking(1, 2, 3))))
        self.check_row(1, 2, 3)

    def test_other_certificates(self):
        self.grow(2)
        header, _ = self.all_heads[0]
        body = ("precommit", 1, 5, self.registry.name(header))
        for owner in OTHERS:
            self.town.seal(owner, body)
        other = (header, ("certificate", 5, OTHERS))
        self.hear_heads(12, 1)
        self.house.hear(13, ("heads", (other,)))
        self.check_row(1)
        self.house.hear(13, ("heads", (other, self.all_heads[1])))
        words = [word for to, word in self.house.pulse() if to == 12]
        self.assertEqual(words[-2:], [("heads", (other, self.all_heads[1])), ("heads?", 0)])
        self.assertEqual(words[3:6], [("sealed", owner, body) for owner in OTHERS])
        self.fetch(self.hear_heads(12, 1, 2))
        self.assertEqual([record[1] for record in self.records(11, "state")], [(other,), self.all_heads[1:]])
        self.assertEqual(self.heads(11), (other, self.all_heads[1]))

    def test_the_same_heads_again(self):
        self.grow(2)
        for sender in (12, 13, 2000):
            self.check_sent(self.hear_heads(sender, 1, 2), (sender, ("pages?", (self.root(2),))))

    def test_a_head_with_the_same_root(self):
        """Nothing is missing for the head of an empty block."""
        (header, _), _ = self.town.head(self.town.header(), self.town.tree(), ())
        head = (header, self.town.certificate(header, OTHERS))
        self.check_sent(self.house.hear(12, ("heads", (head,))))
        self.assertEqual(self.records(11), [self.founding, ("state", (head,), ())])
        self.assertEqual((self.house.height(), self.house.head()), (1, head))

    def test_heads_behind_a_head_with_the_same_root(self):
        head, tree = self.town.head(self.town.header(), self.town.tree(), ())
        second, _ = self.town.head(head[0], tree, (self.commit(),))
        self.check_sent(self.house.hear(12, ("heads", (head, second))), (12, ("pages?", (second[0][4],))))
        self.assertEqual(self.house.height(), 0)
        self.check_sent(self.house.hear(13, ("heads", (head,))), (13, ("pages?", (second[0][4],))))
        self.assertEqual(self.house.height(), 1)
        self.assertEqual(self.records(11)[-1], ("state", (head,), ()))
        words = [word for to, word in self.house.pulse() if to == 12]
        self.assertEqual(words, [("heads", (second,)), ("heads?", 1)])


class PagesTest(TakeOverTest):
    def setUp(self):
        super().setUp()
        self.grow(4, rows=11)
        self.before = self.has()
        self.below = [name for name in self.reachable(self.root(4), self.known) if name != self.root(4)]
        self.assertGreater(len(self.below), 5)

    def test_pages_while_it_aims_at_nothing(self):
        self.check_sent(self.house.hear(12, self.pages([self.root(4), *self.below])))
        self.check_sent(self.house.hear(12, self.pages(sorted(self.before))))
        self.check_sent(self.hear_heads(12, 1, 2, 3, 4), (12, ("pages?", (self.root(4),))))

    def test_all_in_one_go(self):
        self.hear_heads(12, 1, 2, 3, 4)
        names = [self.root(4)]
        for name in names:
            kind, parts = self.known[name]
            names.extend(below for _, below in parts if kind == "node")
        self.check_sent(self.house.hear(13, self.pages(names)))
        self.check_state(1, 4, self.before)

    def test_page_by_page(self):
        self.hear_heads(12, 1, 2, 3, 4)
        kept = []
        for _ in range(100):
            names = self.lacking(4, kept=kept)
            kept.append(names[-1])
            sent = self.house.hear(13, self.pages(names[-1:]))
            if self.house.height() == 4:
                break
            self.check_sent(sent, (13, ("pages?", self.lacking(4, kept=kept))))
            self.assertEqual(self.records(11), [self.founding])
        self.check_sent(sent)
        self.check_state(1, 4, self.before)

    def test_pages_below_what_is_not_known(self):
        """A page is kept only when its name is told by one that is there."""
        self.hear_heads(12, 1, 2, 3, 4)
        new = [name for name in self.below if name not in self.before]
        self.check_sent(self.house.hear(13, self.pages(new)))
        self.check_sent(self.house.hear(13, self.pages([*new, self.root(4)])), (13, ("pages?", self.lacking(4, kept=[self.root(4)]))))
        again = self.lacking(4, kept=[self.root(4)])
        self.check_sent(self.house.hear(13, self.pages([self.root(4)])), (13, ("pages?", again)))

    def test_page_by_page_in_order_within_a_word(self):
        self.hear_heads(12, 1, 2, 3, 4)
        first = self.known[self.root(4)][1][0][1]
        some = self.known[self.root(4)][1][-1][1]
        sent = self.house.hear(13, self.pages([first, self.root(4), some]))
        self.check_sent(sent, (13, ("pages?", self.lacking(4, kept=[self.root(4), some]))))

    def test_pages_that_are_none_or_not_missing(self):
        self.hear_heads(12, 1, 2, 3, 4)
        alien = ("leaf", (((0, "alien"), 1),))
        for pages in [(), (alien,), (1, None, "page"), (("leaf", ((1, 2),)),), (("node", ()),), (alien, ("leaf",))]:
            self.check_sent(self.house.hear(13, ("pages", pages)))
        for pages in [None, 1, "pages", True]:
            self.check_sent(self.house.hear(13, ("pages", pages)))
        for strange in STRANGE:
            self.check_sent(self.house.hear(13, ("pages", (strange, self.known[self.root(4)]))))
        root = self.known[self.root(4)]
        sent = self.house.hear(13, ("pages", (alien, 1, root, None, ("leaf", ((1, 2),)))))
        self.check_sent(sent, (13, ("pages?", self.lacking(4, kept=[self.root(4)]))))
        self.check_sent(self.house.hear(13, ("pages", (alien,))))

    def test_a_page_that_it_has(self):
        self.hear_heads(12, 1, 2, 3, 4)
        for name in self.before:
            self.check_sent(self.house.hear(13, self.pages([name])), (13, ("pages?", (self.root(4),))))
            alien = ("leaf", (((0, "alien"), 1),))
            for pages in [(alien, self.known[name], 5), (self.known[name], alien)]:
                self.check_sent(self.house.hear(14, ("pages", pages)), (14, ("pages?", (self.root(4),))))

    def test_pages_from_several_senders(self):
        self.hear_heads(12, 1, 2, 3, 4)
        sender, kept = 12, []
        while self.house.height() == 0:
            sender = {12: 13, 13: 2000, 2000: 12}[sender]
            names = self.lacking(4, kept=kept)[:2]
            kept.extend(names)
            self.house.hear(sender, self.pages(names))
        self.check_state(1, 4, self.before)

    def test_made_up_pages(self):
        """A leaf with another value has another name."""
        self.hear_heads(12, 1, 2, 3, 4)
        kind, parts = self.known[self.root(4)]
        for page in [(kind, parts[:-1]), (kind, parts + parts[:1]), (kind, parts[::-1]), ("leaf", parts), (kind, parts, 1)]:
            self.check_sent(self.house.hear(12, ("pages", (page,))))
        self.fetch(self.hear_heads(12, 1, 2, 3, 4))
        self.check_state(1, 4, self.before)

    def test_kept_pages_are_not_told(self):
        self.hear_heads(12, 1, 2, 3, 4)
        self.house.hear(12, self.pages([self.root(4)]))
        self.check_sent(self.house.hear(12, ("pages?", (self.root(4),))))
        self.assertEqual(self.has(), self.before)
        self.fetch(self.hear_heads(12, 1, 2, 3, 4))
        self.check_sent(self.house.hear(12, ("pages?", (self.root(4),))), (12, self.pages([self.root(4)])))

    def test_pages_of_other_heights_are_not_had(self):
        self.fetch(self.hear_heads(12, 1, 2, 3, 4))
        for height in (1, 2, 3):
            if self.root(height) not in self.reachable(self.root(4), self.known):
                self.check_sent(self.house.hear(12, ("pages?", (self.root(height),))))

    def test_the_heights_at_which_it_was(self):
        self.fetch(self.hear_heads(12, 1, 2, 3, 4))
        statement = ("select", ("count",), (("t", "t"),), ())
        for height in range(5):
            sent = self.house.hear(2000, ("paper?", height, (statement,)))
            self.assertEqual(len(sent), 1 if height in (0, 4) else 0)
        self.restart(11)
        for height in range(5):
            sent = self.houses[11].hear(2000, ("paper?", height, (statement,)))
            self.assertEqual(len(sent), 1 if height in (0, 4) else 0)
        self.assertEqual(self.heads(11), self.all_heads)


class AimsTest(TakeOverTest):
    def setUp(self):
        super().setUp()
        self.grow(5, rows=11)
        self.before = self.has()

    def names(self, height):
        """The names of all pages of a height, each behind the one that tells it."""
        names = [self.root(height)]
        for name in names:
            kind, parts = self.known[name]
            names.extend(below for _, below in parts if kind == "node")
        return names

    def test_the_lower_height_first(self):
        self.hear_heads(12, 1, 2)
        self.hear_heads(13, 1, 2, 3, 4)
        sent = self.house.hear(14, self.pages(self.names(2)))
        self.check_state(1, 2, self.before)
        self.check_sent(sent, (14, ("pages?", (self.root(4),))))
        self.check_row(3, 4)
        between = self.has()
        self.check_sent(self.fetch(sent, 14))
        self.check_state(3, 4, between)
        self.check_row()

    def test_the_higher_height_first(self):
        self.hear_heads(12, 1, 2)
        self.hear_heads(13, 1, 2, 3, 4)
        self.check_sent(self.house.hear(14, self.pages(self.names(4))))
        self.check_state(1, 4, self.before)
        self.check_row()
        self.assertEqual(len(self.records(11, "state")), 1)

    def test_both_at_once(self):
        self.hear_heads(12, 1, 2)
        self.hear_heads(13, 1, 2, 3, 4)
        self.check_sent(self.house.hear(14, self.pages(self.names(2) + self.names(4))))
        self.check_state(1, 4, self.before)

    def test_a_height_in_the_middle(self):
        for last in (1, 3, 5):
            self.hear_heads(12, *range(1, last + 1))
        sent = self.house.hear(14, self.pages(self.names(3)))
        self.check_state(1, 3, self.before)
        self.check_sent(sent, (14, ("pages?", self.lacking(5))))
        self.check_row(4, 5)

    def test_heads_beyond_the_aim_stay_in_the_row(self):
        """The row is longer than the heads that were taken last."""
        self.hear_heads(12, 1, 2, 3, 4, 5)
        self.hear_heads(12, 1, 2, 3)
        sent = self.house.hear(14, self.pages(self.names(3)))
        self.check_state(1, 3, self.before)
        self.check_sent(sent, (14, ("pages?", self.lacking(5))))

    def test_names_are_asked_once(self):
        self.hear_heads(12, 1, 2, 3, 4)
        self.house.hear(12, self.pages([self.root(4)]))
        self.hear_heads(12, 1, 2, 3, 4, 5)
        sent = self.house.hear(12, self.pages([self.root(5)]))
        kept = [self.root(4), self.root(5)]
        self.check_sent(sent, (12, ("pages?", self.lacking(4, 5, kept=kept))))
        names = [name for height in (4, 5) for _, name in self.known[self.root(height)][1]]
        self.assertLess(len(set(names)), len(names))

    def test_kept_pages_serve_later_aims(self):
        self.hear_heads(12, 1, 2, 3, 4)
        kept = self.names(4)[:-1]
        self.house.hear(12, self.pages(kept))
        sent = self.hear_heads(12, 1, 2, 3, 4, 5)
        self.check_sent(sent, (12, ("pages?", self.lacking(4, 5, kept=kept))))

    def test_kept_pages_stay_until_a_state_makes_it_have_them(self):
        self.hear_heads(12, 1, 2, 3, 4)
        kept = self.names(4)[:-1]
        self.house.hear(12, self.pages(kept))
        self.hear_heads(12, 1)
        self.house.hear(12, self.pages(self.names(1)))
        self.assertEqual(self.house.height(), 1)
        self.assertNotIn(self.root(4), self.has())
        self.check_sent(self.hear_heads(12, 2, 3, 4), (12, ("pages?", self.lacking(4, kept=kept))))
        before = self.has()
        self.fetch(self.hear_heads(12, 2, 3, 4))
        self.check_state(2, 4, before)

    def test_what_is_forgotten_when_power_fails(self):
        self.hear_heads(12, 1, 2, 3, 4)
        self.house.hear(12, self.pages([self.root(4)]))
        self.house = self.restart(11)
        self.check_row()
        self.check_sent(self.house.hear(12, self.pages(sorted(self.before))))
        self.check_sent(self.hear_heads(12, 1, 2, 3, 4), (12, ("pages?", (self.root(4),))))


class DecidingTest(TakeOverTest):
    def precommits(self, height):
        header, (_, number, owners) = self.all_heads[height - 1]
        return [("sealed", owner, ("precommit", height, number, self.registry.name(header))) for owner in owners]

    def block(self, height):
        record = self.records(12, "block")[height - 1]
        return ("block", record[1], record[2])

    def test_it_decides_and_its_row_goes_on(self):
        self.grow(3)
        self.hear_heads(12, 1, 2, 3)
        told = [(owner, ("heads", self.all_heads[:1])) for owner in OTHERS]
        self.check_sent(self.house.hear(12, self.block(1)), *told)
        self.assertEqual(self.house.height(), 1)
        self.check_row(2, 3)
        before = self.has()
        self.check_sent(self.house.hear(13, self.pages([self.root(3)])), (13, ("pages?", self.lacking(3, kept=[self.root(3)]))))
        self.fetch(self.hear_heads(12, 2, 3))
        self.check_state(2, 3, before)

    def test_an_aim_that_is_decided_is_none_any_more(self):
        self.grow(2)
        self.hear_heads(12, 1)
        self.house.hear(12, self.block(1))
        self.check_row()
        self.check_sent(self.house.hear(12, self.pages([self.root(1)])))

    def test_heads_let_it_decide(self):
        """It goes on with the sender first, and what can be decided follows."""
        self.grow(3)
        self.check_sent(self.house.hear(12, self.block(1)))
        told = [(owner, ("heads", self.all_heads[:1])) for owner in OTHERS]
        asked = self.lacking(1)
        self.check_sent(self.hear_heads(500, 1), (500, ("pages?", asked)), *told)
        self.assertEqual(self.records(11)[-1][0], "block")
        self.assertEqual((self.house.height(), self.house.head()), (1, self.all_heads[0]))
        self.check_row()

    def test_heads_that_could_be_decided_and_are_taken_over(self):
        """Nothing is missing, so the state is stored where it could decide."""
        (header, _), _ = self.town.head(self.town.header(), self.town.tree(), ())
        head = (header, self.town.certificate(header, OTHERS))
        self.check_sent(self.house.hear(12, ("block", header, ())))
        self.check_sent(self.house.hear(12, ("heads", (head,))))
        self.assertEqual([record[0] for record in self.records(11)], ["founding", "state"])

    def test_a_certificate_with_all_owners_that_are_known(self):
        self.grow(1)
        header, (_, number, owners) = self.all_heads[0]
        more = self.town.seal(11, ("precommit", 1, number, self.registry.name(header)))
        self.house.hear(12, more)
        self.house.hear(12, self.block(1))
        self.hear_heads(12, 1)
        self.assertEqual(self.house.head(), (header, ("certificate", number, tuple(sorted({11, *owners})))))

    def test_the_pool_behind_a_state(self):
        self.grow(3)
        words = [self.commit(2000, 3), self.commit(2001, 1)]
        old = [word for height in (1, 2, 3) for word in self.block(height)[2]]
        for word in [*old, *words]:
            self.house.hear(9999, word)
        self.assertEqual(self.house.pool(), [*old, *words])
        self.fetch(self.hear_heads(12, 1, 2, 3))
        self.assertEqual(self.house.pool(), words)

    def test_what_it_does_behind_a_state(self):
        """It is awake at its new height if a commit of its pool can run."""
        self.grow(3)
        word = self.commit(2001, 1, *inserts(500, 502))
        self.house.hear(9999, word)
        self.hear_heads(12, 1, 2, 3)
        sent = self.fetch([(12, ("pages?", (self.root(3),)))])
        made, _ = made_header(self.registry, self.all_heads[2][0], self.trees[3], (word,), FOUNDER)
        proposal = ("sealed", 11, ("proposal", 4, 0, made, (word,), -1))
        vote = ("sealed", 11, ("prevote", 4, 0, self.registry.name(made)))
        self.check_sent(sent, *[(owner, found) for found in (proposal, vote) for owner in OTHERS])

    def test_own_words_of_a_height_that_is_passed(self):
        """The agreement of the next height knows none of them."""
        self.grow(1)
        self.house.hear(9999, self.commit(2001, 1))
        self.house.tick()
        self.assertEqual(self.house.stand(), (1, 0, 1))
        self.fetch(self.hear_heads(12, 1))
        self.assertEqual(self.house.stand(), (2, 0, 0))
        self.house = self.restart(11)
        self.assertEqual(self.house.stand(), (2, 0, 0))
        self.assertEqual([word for _, word in self.house.pulse()], [("heads?", 1)] * 3)


class ReopenedTest(TakeOverTest):
    def test_what_it_knows_again(self):
        self.grow(4)
        self.fetch(self.hear_heads(12, 1, 2))
        self.fetch(self.hear_heads(12, 3, 4))
        before = (self.has(), self.heads(11), self.entries(11), self.house.head(), self.house.stand())
        records = self.records(11)
        self.assertEqual([record[0] for record in records], ["founding", "state", "state"])
        self.house = self.restart(11)
        self.assertEqual((self.has(), self.heads(11), self.entries(11), self.house.head(), self.house.stand()), before)
        self.assertEqual(self.records(11), records)

    def test_blocks_and_states_in_turn(self):
        self.grow(1)
        self.fetch(self.hear_heads(12, 1))
        self.decide(self.commit(2000, 1, *inserts(0, 12)))
        self.trees.append(self.houses[12].tree())
        self.grow(2)
        self.fetch(self.hear_heads(12, 3, 4))
        self.decide(self.commit(2001, 1, *inserts(900, 912)))
        kinds = [record[0] for record in self.records(11) if record[0] != "own"]
        self.assertEqual(kinds, ["founding", "state", "block", "state", "block"])
        before = (self.has(), self.heads(11), self.entries(11), self.house.head())
        self.house = self.restart(11)
        self.assertEqual((self.has(), self.heads(11), self.entries(11), self.house.head()), before)
        self.assertEqual(self.entries(11), self.entries(12))
        for height in range(6):
            sent = self.house.hear(2000, ("paper?", height, (CREATE,)))
            self.assertEqual(len(sent), 0 if height == 3 else 1)


class UnsealedTest(TakeOverTest):
    def test_heads_with_a_root_that_is_no_tree(self):
        """More owners than may lie seal a header with a root of their own; no page is ever taken for it."""
        for root in (self.registry.name(("leaf", ((1, 2),))), self.registry.name(5), 10 ** 50, 0):
            self.house = self.restart(11)
            header = ("header", 1, self.registry.name(self.town.header()), 9, root, self.owners)
            head = (header, self.town.certificate(header, OTHERS))
            self.check_sent(self.house.hear(12, ("heads", (head,))), (12, ("pages?", (root,))))
            self.check_sent(self.house.hear(12, ("pages", (("leaf", ((1, 2),)), 5, CREATED))))
            self.assertEqual(self.house.height(), 0)


if __name__ == "__main__":
    unittest.main()
