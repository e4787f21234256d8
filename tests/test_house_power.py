"""Losses of power: at each operation, and what a house knows when it is opened again."""

import unittest

from agreement import Telling
from streets import HouseTest, inserts
from towns import FOUNDER, Town
from trothbase.errors import HouseClosed, PowerOff
from trothbase.house import House
from trothbase.ledger import made_header, run_block
from trothbase.names import same
from trothbase.shelf import Shelf

OTHERS = (12, 13, 14)


class ClosedTest(HouseTest):
    def check_closed(self, house):
        for method in [house.tick, house.pulse, house.height, house.head, house.stand, house.tree, house.pool]:
            self.assertRaises(HouseClosed, method)
        for word in [("heads?", 0), None, [], self.town.seal(12, ("prevote", 1, 0, None))]:
            self.assertRaises(HouseClosed, house.hear, 12, word)

    def test_power_that_fails_outside(self):
        house, shelf = self.houses[11], self.shelves[11]
        shelf.power(0)
        for _ in range(2):
            self.check_closed(house)
            self.assertEqual((shelf.records(), shelf.losses(), shelf.is_on()), ([self.founding], 1, True))
        again = self.start(11)
        self.assertEqual(again.height(), 0)
        self.check_closed(house)

    def test_a_closed_house_stores_nothing(self):
        """Each method would store something, and does not."""
        commit = self.commit()
        (header, _), _ = self.town.head(self.town.header(), self.town.tree(), ())
        heads = ("heads", ((header, self.town.certificate(header, OTHERS)),))
        for on in (True, False):
            for method in ["hear", "tick", "pulse"]:
                house, shelf = self.restart(11), self.shelves[11]
                if method == "tick":
                    house.hear(12, commit)
                if on:
                    shelf.power(0)
                else:
                    shelf.fail_after(0)
                    self.assertRaises(PowerOff, shelf.append, 1)
                losses = shelf.losses()
                with self.assertRaises(HouseClosed):
                    house.hear(12, heads) if method == "hear" else getattr(house, method)()
                self.assertEqual((shelf.records(), shelf.losses()), ([self.founding], losses))

    def test_power_that_is_off(self):
        house, shelf = self.houses[11], self.shelves[11]
        shelf.fail_after(0)
        self.assertEqual(house.height(), 0)
        self.assertRaises(PowerOff, shelf.sync)
        self.check_closed(house)
        self.assertRaises(PowerOff, self.start, 11)
        shelf.power(5)
        self.check_closed(house)
        self.assertEqual(self.start(11).height(), 0)

    def test_what_stores_nothing_needs_no_power_that_is_to_fail(self):
        house, shelf = self.houses[11], self.shelves[11]
        shelf.fail_after(0)
        self.assertEqual(house.hear(12, ("heads?", 3)), [(12, ("heads?", 0))])
        self.assertEqual(len(house.pulse()), 3)
        self.assertEqual((house.tick(), house.pool(), house.stand()), ([], [], (1, 0, 0)))
        house.hear(12, self.commit())
        self.assertRaises(PowerOff, house.tick)
        self.check_closed(house)

    def test_power_that_is_off_goes_before_another_founding(self):
        shelf = Shelf()
        shelf.append(("another",))
        shelf.fail_after(0)
        self.assertRaises(PowerOff, shelf.sync)
        with self.assertRaises(PowerOff):
            House(self.registry, self.town.pen(11), self.founding, shelf)


class DueTest(HouseTest):
    def test_power_that_fails_in_each_method(self):
        """The block that is decided is stored; power fails ahead of the append, of the sync, or not at all."""
        for method in ["hear", "tick", "pulse"]:
            for after, kept, height in [(0, 0, 0), (0, 5, 0), (1, 0, 0), (1, 1, 1), (1, 5, 1), (2, 0, 1)]:
                self.build()
                house, shelf = self.houses[11], self.shelves[11]
                header, _ = self.make_due(house)
                call = {"hear": lambda: house.hear(500, ("heads?", 7)), "tick": house.tick, "pulse": house.pulse}[method]
                shelf.fail_after(after)
                if after < 2:
                    self.assertRaises(PowerOff, call)
                    self.assertRaises(HouseClosed, call)
                else:
                    self.assertNotEqual(call(), [])
                house = self.restart(11, kept)
                self.assertEqual((house.height(), len(shelf.records())), (height, 1 + height))
                self.assertEqual(house.tree().root, header[4] if height else self.town.tree().root)


class FoundingTest(unittest.TestCase):
    def test_power_that_fails_when_a_house_is_opened(self):
        for after, kept, found in [(0, 0, 0), (0, 3, 0), (1, 0, 0), (1, 1, 1), (1, 2, 1)]:
            town, shelf = Town(), Shelf()
            shelf.fail_after(after)
            with self.assertRaises(PowerOff):
                House(town.registry, town.pen(11), town.founding, shelf)
            self.assertEqual((shelf.is_on(), shelf.losses()), (False, 1))
            with self.assertRaises(PowerOff):
                House(town.registry, town.pen(11), town.founding, shelf)
            shelf.power(kept)
            self.assertEqual(shelf.records(), [town.founding] * found)
            house = House(town.registry, town.pen(11), town.founding, shelf)
            self.assertEqual((house.height(), shelf.records(), shelf.pending()), (0, [town.founding], 0))


class Days(HouseTest):
    """The same days again and again: what house 11 hears, one thing after another."""

    def things(self):
        """What happens to house 11: functions of the house."""
        self.build()
        town = self.town
        first = self.commit()
        made = made_header(self.registry, town.header(), town.tree(), (first,), FOUNDER)[0]
        name = self.registry.name(made)

        def vote(owner, kind, number, voted):
            return lambda house: house.hear(owner, town.seal(owner, (kind, 1, number, voted)))

        yield lambda house: house.hear(9999, first)
        yield lambda house: house.hear(12, town.seal(12, ("proposal", 1, 0, made, (first,), -1)))
        yield vote(12, "prevote", 0, name)
        yield vote(13, "prevote", 0, name)
        yield lambda house: house.pulse()
        yield vote(12, "precommit", 0, None)
        yield vote(13, "precommit", 0, None)
        yield lambda house: house.tick()
        yield vote(13, "prevote", 3, None)
        yield vote(14, "precommit", 3, None)
        yield lambda house: house.hear(9999, first)
        yield lambda house: house.tick()
        yield vote(12, "prevote", 3, name)
        yield lambda house: house.hear(12, town.seal(12, ("block", 1)))
        yield lambda house: house.hear(12, ("block", made, (first,)))
        for owner in OTHERS:
            yield vote(owner, "precommit", 4, name)
        yield from self.later_things(town, made)

    def later_things(self, town, made):
        """The others are at height 4; house 11 takes over 2 and 3, and decides 4 as its proposer."""
        self.decide_others(made)
        heads = self.heads(12)
        pages = tuple(self.all_pages(12).values())
        yield lambda house: house.hear(12, ("heads", heads[1:3]))
        for _ in range(5):
            yield lambda house: house.hear(12, ("pages", pages))
        block = self.records(12, "block")[3]
        yield lambda house: house.hear(9999, block[2][0])
        yield lambda house: house.hear(12, ("heads", heads))
        yield lambda house: house.hear(12, ("block", block[1], block[2]))
        yield lambda house: house.pulse()
        # What it missed because of a loss it takes over now.
        yield lambda house: house.hear(12, ("heads", heads))
        for _ in range(5):
            yield lambda house: house.hear(12, ("pages", pages))

    def decide_others(self, made):
        for owner in OTHERS:
            self.houses[owner].hear(1, ("block", made, self.first_block))
            for other in OTHERS:
                self.houses[owner].hear(1, self.town.seal(other, ("precommit", 1, 4, self.registry.name(made))))
            self.assertEqual(self.houses[owner].height(), 1)
        for at in range(3):
            self.decide(self.commit(2000, at + 1, *inserts(9 * at, 9 * at + 9)), among=OTHERS)

    @property
    def first_block(self):
        return (self.town.told(self.town.tree(), FOUNDER, 1, ("create", "t", ("integer", "text"), 1)),)

    def known(self, house, shelf):
        """What a house is to know that was opened on a shelf: its height, and the telling of the agreement."""
        header, tree, own = self.town.header(), self.town.tree(), []
        pages = tree.pages()
        for record in shelf.records()[1:]:
            if record[0] == "own":
                own.append(record)
                continue
            own = []
            if record[0] == "block":
                tree = run_block(self.registry, tree, record[2], FOUNDER)
                header = record[1]
            else:
                header = record[1][-1][0]
                tree = self.tree_of(header[4], {**pages, **{self.registry.name(page): page for page in record[2]}})
            pages.update(tree.pages())
        telling = Telling(self.registry, 11, header, tree, FOUNDER)
        for _, body, grounds, reason in own:
            for word in reason:
                telling.hear(word)
            if grounds is not None:
                telling.hear(("block", *grounds[:2]))
                for owner in grounds[2]:
                    telling.hear(("sealed", owner, ("prevote", *body[1:])))
            telling.hear(("sealed", 11, body))
            telling.take(body[2], reason)
        return header, telling

    def tree_of(self, root, pages):
        tree = self.fresh(self.town.tree())
        return type(tree)(self.registry, root, pages)

    def check_known(self, house, shelf):
        header, telling = self.known(house, shelf)
        self.assertEqual((house.height(), house.head()[0]), (header[1], header))
        self.assertEqual(house.stand(), (header[1] + 1, *telling.stand()))
        self.assertEqual(house.tree().root, header[4])
        self.assertEqual(house.pool(), [])
        return telling

    def run_days(self, stop=None, after=0, kept=0):
        """House 11 hears all; before one thing its power is to fail, and behind it that thing happens again."""
        for at, thing in enumerate(self.things()):
            house, shelf = self.houses[11], self.shelves[11]
            before = shelf.records()
            if at == stop:
                shelf.fail_after(after)
            try:
                thing(house)
            except PowerOff:
                self.assertEqual((at, shelf.is_on()), (stop, False))
                self.assertRaises(HouseClosed, house.pool)
                self.check_operation(before, shelf, after)
                lasting = shelf.records()[:len(shelf.records()) - shelf.pending()]
                waiting = shelf.records()[len(lasting):]
                shelf.power(kept)
                self.assertEqual(shelf.records(), lasting + waiting[:kept])
                self.check_sealed(shelf)
                house = self.start(11)
                self.assertEqual(shelf.records(), lasting + waiting[:kept])
                self.check_words(self.check_known(house, shelf))
                thing(house)
            else:
                self.assertEqual(shelf.pending(), 0)

    def check_operation(self, before, shelf, after):
        """Before each operation that fails, one record is appended and synced after another."""
        self.assertEqual(len(shelf.records()), len(before) + (after + 1) // 2)
        self.assertEqual(shelf.pending(), after % 2)

    def check_sealed(self, shelf):
        """Each body that house 11 has sealed at its height is on its shelf."""
        stored = [record[1] for record in shelf.records() if record[0] == "own"]
        for kind in ("proposal", "prevote", "precommit"):
            for number in range(6):
                for name in [None, *range(1, 40)]:
                    body = (kind, 1, number, name)
                    if self.registry.is_sealed(11, body):
                        self.assertIn(body, stored)

    def check_words(self, telling):
        """A house that is opened on a copy of the shelf knows the same; its pulse says so."""
        copy = Shelf()
        for record in self.shelves[11].records():
            copy.append(record)
        copy.sync()
        house = House(self.registry, self.town.pen(11), self.founding, copy)
        words = [word for to, word in house.pulse() if to == 12 and word[0] in ("sealed", "block")]
        for word in telling.words():
            self.assertIn(word, words)
        known = [word for word in telling.words() if word[0] == "sealed"]
        self.assertEqual([word for word in words if word in known][-len(known):] if known else [], known)


class DaysTest(Days):
    def test_days_without_a_loss(self):
        self.run_days()
        kinds = [record[0] for record in self.records(11) if record[0] != "own"]
        self.assertEqual(kinds, ["founding", "block", "state", "block"])
        self.assertEqual(self.houses[11].height(), 4)
        self.assertEqual([record[1][:3] for record in self.records(11, "own")], [
            ("prevote", 1, 0), ("precommit", 1, 0), ("proposal", 1, 3), ("prevote", 1, 3), ("proposal", 4, 0), ("prevote", 4, 0),
        ])

    def test_each_operation_of_each_thing(self):
        """Power fails at each operation, with none, one and all of the waiting records arriving."""
        self.run_days()
        stored = []
        for at, thing in enumerate(self.things()):
            before = len(self.shelves[11].records())
            thing(self.houses[11])
            stored.append(len(self.shelves[11].records()) - before)
        self.assertGreaterEqual(sum(stored), 8)
        self.assertGreaterEqual(len([many for many in stored if many]), 6)
        expected = None
        for at, many in enumerate(stored):
            for after in range(2 * many):
                for kept in (0, 1, 5):
                    with self.subTest(at=at, after=after, kept=kept):
                        self.run_days(at, after, kept)
                        self.assertEqual(self.shelves[11].losses(), 1)
                        self.assertEqual(self.houses[11].height(), 4)
                        self.check_pens()
                        expected = expected or self.entries(12)
                        self.assertEqual(self.entries(11), self.entries(12))

    def check_pens(self):
        """No two different votes of one height and round are sealed by house 11."""
        for kind in ("prevote", "precommit"):
            for height in range(1, 5):
                for number in range(6):
                    names = [None, *range(1, 90)]
                    sealed = [name for name in names if self.registry.is_sealed(11, (kind, height, number, name))]
                    self.assertLessEqual(len(sealed), 1, (kind, height, number, sealed))


class KnownAgainTest(HouseTest):
    """What a house knows of the agreement when it is opened again."""

    def setUp(self):
        super().setUp()
        self.word = self.commit()
        self.made = made_header(self.registry, self.town.header(), self.town.tree(), (self.word,), FOUNDER)[0]
        self.name = self.registry.name(self.made)

    def vote(self, owner, kind, number=0, name="own"):
        return self.town.seal(owner, (kind, 1, number, self.name if name == "own" else name))

    def words(self, house):
        return [word for to, word in house.pulse() if to == house.pulse()[0][0]]

    def test_a_lock(self):
        house = self.houses[11]
        house.hear(12, self.town.seal(12, ("proposal", 1, 0, self.made, (self.word,), -1)))
        for owner in (13, 12):
            house.hear(owner, self.vote(owner, "prevote"))
        self.assertEqual(house.stand(), (1, 0, 2))
        house = self.restart(11)
        self.assertEqual(house.stand(), (1, 0, 2))
        own, more = self.vote(11, "prevote"), self.vote(11, "precommit")
        told = [self.vote(owner, "prevote") for owner in (12, 13)]
        self.assertEqual(self.words(house), [("block", self.made, (self.word,)), own, *told, more, ("heads?", 0)])
        house.hear(13, self.town.seal(13, ("proposal", 1, 1, *self.other(), -1)))
        for owner in (13, 14):
            house.hear(owner, self.vote(owner, "precommit", 0, None))
        self.assertEqual(house.stand(), (1, 0, 2))
        house.tick()
        self.assertEqual(self.records(11)[-1], ("own", ("prevote", 1, 1, None), None, ()))

    def other(self):
        return made_header(self.registry, self.town.header(), self.town.tree(), (), FOUNDER)[0], ()

    def test_a_proposal(self):
        house = self.houses[12]
        house.hear(9999, self.word)
        records = self.shelves[12].records()
        proposal = self.town.seal(12, ("proposal", 1, 0, self.made, (self.word,), -1))
        self.assertEqual([record[1] for record in records[1:]], [proposal[2], self.vote(12, "prevote")[2]])
        house = self.restart(12)
        self.assertEqual(house.stand(), (1, 0, 1))
        more = self.commit(2000, 1, *inserts(0, 1))
        self.assertEqual(house.hear(9999, more), [])
        words = [proposal, self.vote(12, "prevote"), more, ("heads?", 0)]
        self.assertEqual(self.words(house), words)
        self.assertEqual(self.shelves[12].records(), records)

    def test_a_proposal_that_was_stored_and_not_sealed(self):
        """The record arrives though the sync failed; the proposal is sealed when the house is opened."""
        shelf = self.shelves[12]
        shelf.fail_after(1)
        self.assertRaises(PowerOff, self.houses[12].hear, 9999, self.word)
        body = ("proposal", 1, 0, self.made, (self.word,), -1)
        self.assertIs(self.registry.is_sealed(12, body), False)
        house = self.restart(12, 1)
        self.assertIs(self.registry.is_sealed(12, body), True)
        self.assertEqual(house.stand(), (1, 0, 0))
        self.assertEqual(len(shelf.records()), 2)
        sent = house.hear(9999, ("nothing",))
        self.assertEqual(sent, [(owner, self.vote(12, "prevote")) for owner in (11, 13, 14)])
        self.assertEqual(len(shelf.records()), 3)

    def test_a_proposal_that_was_lost(self):
        """Nothing was sealed, so another one may be sealed later."""
        shelf = self.shelves[12]
        for after in (0, 1):
            shelf.fail_after(after)
            self.assertRaises(PowerOff, self.houses[12].hear, 9999, self.word)
            house = self.restart(12, 0)
            self.assertEqual((shelf.records(), house.stand()), ([self.founding], (1, 0, 0)))
            self.assertEqual([word for _, word in house.pulse()], [("heads?", 0)] * 3)
        other = self.commit(2000, 1)
        sent = house.hear(9999, other)
        self.assertEqual(sent[0][1][2][4], (other,))
        self.assertIs(self.registry.is_sealed(12, ("proposal", 1, 0, self.made, (self.word,), -1)), False)

    def test_a_vote_that_was_lost(self):
        shelf = self.shelves[11]
        shelf.fail_after(1)
        proposal = self.town.seal(12, ("proposal", 1, 0, self.made, (self.word,), -1))
        self.assertRaises(PowerOff, self.houses[11].hear, 12, proposal)
        self.assertIs(self.registry.is_sealed(11, ("prevote", 1, 0, self.name)), False)
        house = self.restart(11, 0)
        house.hear(9999, self.word)
        house.tick()
        self.assertIs(self.registry.is_sealed(11, ("prevote", 1, 0, None)), True)
        self.assertIs(self.registry.is_sealed(11, ("prevote", 1, 0, self.name)), False)

    def test_the_reason_of_a_round(self):
        house = self.houses[11]
        reason = tuple(self.vote(owner, "prevote", 2, None) for owner in (13, 14))
        for word in reason[::-1]:
            house.hear(9, word)
        house.tick()
        house = self.restart(11)
        self.assertEqual(house.stand(), (1, 2, 2))
        own = [self.vote(11, kind, 2, None) for kind in ("prevote", "precommit")]
        self.assertEqual(self.words(house), [*reason, *own, ("heads?", 0)])

    def test_a_round_in_which_nothing_was_sealed(self):
        house = self.houses[11]
        for owner in (13, 14):
            house.hear(9, self.vote(owner, "prevote", 2, None))
        self.assertEqual(house.stand(), (1, 2, 0))
        self.assertEqual(self.restart(11).stand(), (1, 0, 0))

    def test_several_rounds(self):
        house = self.houses[11]
        for number in (0, 1):
            for owner in (12, 13):
                for kind in ("prevote", "precommit"):
                    house.hear(owner, self.vote(owner, kind, number, None))
            house.tick()
            self.assertEqual(house.stand(), (1, number, 2))
            if number == 0:
                house.tick()
        house = self.restart(11)
        self.assertEqual(house.stand(), (1, 1, 2))
        own = [self.vote(11, kind, number, None) for number in (0, 1) for kind in ("prevote", "precommit")]
        self.assertEqual(self.words(house)[-5:], [*own, ("heads?", 0)])

    def test_patience_is_forgotten(self):
        house = self.houses[11]
        house.hear(9999, self.word)
        house.tick()
        self.assertEqual(self.restart(11).stand(), (1, 0, 1))
        for owner, name in [(12, None), (13, 5)]:
            self.houses[11].hear(owner, self.vote(owner, "prevote", 0, name))
        self.assertEqual(self.houses[11].stand(), (1, 0, 1))

    def test_nothing_is_done_before_the_next_call(self):
        """A quorum of precommits is in the reasons and the block is known, so the next call decides."""
        house = self.houses[11]
        house.hear(12, self.town.seal(12, ("proposal", 1, 0, self.made, (self.word,), -1)))
        for owner in (12, 13):
            house.hear(owner, self.vote(owner, "prevote"))
        words = [self.vote(owner, "precommit", 0) for owner in (12, 13)]
        house.hear(12, words[0])
        self.shelves[11].fail_after(0)
        self.assertRaises(PowerOff, house.hear, 13, words[1])
        house = self.restart(11)
        records = self.shelves[11].records()
        self.assertEqual((house.height(), house.stand()), (0, (1, 0, 2)))
        house.hear(12, words[0])
        self.assertEqual(self.shelves[11].records(), records)
        house.hear(12, words[1])
        self.assertEqual(house.height(), 1)
        self.assertEqual(house.head()[1], ("certificate", 0, (11, 12, 13)))

    def test_the_pages_that_it_has(self):
        self.decide(self.word)
        for at in range(3):
            self.decide(self.commit(2000, at + 1, *inserts(9 * at, 9 * at + 9)))
        before = self.all_pages(11)
        for _ in range(2):
            self.restart(11)
            self.assertEqual(self.all_pages(11), before)
        self.assertEqual(self.heads(11)[-1], self.houses[11].head())
        self.assertTrue(same(self.houses[11].head()[0], self.houses[12].head()[0]))
        self.assertEqual(self.entries(11), self.entries(12))


if __name__ == "__main__":
    unittest.main()
