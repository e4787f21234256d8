"""Runs of a whole town for tests: right houses and sessions, liars, lost words and losses of power.

Everything happens by chance, told by a seed. `Run.check` compares what was
reached with points [46] to [48], by the second telling of statements in
tests/tables.py; `Run.calm` makes the calm turns of point [49].
"""

import random

import tables
from test_statements_model import Sayings
from trothbase.errors import PowerOff
from trothbase.house import House
from trothbase.ledger import chosen, is_commit, last_number, made_header
from trothbase.names import Registry, same
from trothbase.session import Session
from trothbase.shelf import Shelf
from towns import FOUNDER, OWNERS

MOST_WAITING = 400


class WatchedPen:
    """A pen that remembers what it sealed."""

    def __init__(self, pen):
        self.owner = pen.owner
        self._pen = pen
        self.bodies = []

    def seal(self, body):
        self.bodies.append(body)
        return self._pen.seal(body)


class Client:
    """A right session, with what it was told."""

    def __init__(self, run, owner):
        self.pen = WatchedPen(run.registry.pen(owner))
        self.session = Session(run.registry, self.pen, run.founding)
        self.owner = owner
        self.is_open = False
        self.base = 0
        self.waits = None
        self.answers = []
        self.outcomes = []


class Run:
    def __init__(self, seed, many=4, liars=1, spare=(), sessions=(FOUNDER, 2000, 2001), luck=None):
        self.chance = random.Random(seed)
        self.luck = {"drop": 0.05, "double": 0.05, "failure": 0.005, "tick": 0.02, "pulse": 0.1, "lie": 0.1, **(luck or {})}
        self.registry = Registry()
        self.founding = ("founding", OWNERS[many], FOUNDER)
        everybody = [*OWNERS[many], *spare]
        self.liars = {owner: self.registry.pen(owner) for owner in self.chance.sample(list(OWNERS[many]), liars)}
        self.right = [owner for owner in everybody if owner not in self.liars]
        self.everybody = everybody
        self.pens = {owner: WatchedPen(self.registry.pen(owner)) for owner in self.right}
        self.shelves = {owner: Shelf() for owner in self.right}
        self.houses = {}
        for owner in self.right:
            self.start(owner)
        self.clients = {owner: Client(self, owner) for owner in sessions}
        self.sayings = Sayings(self.chance)
        self.waiting = []
        self.heard = []
        self.commits = []
        self.early = {}
        self.maps = {}
        self.roots = {}
        self.headers = {}

    # What houses do.

    def start(self, owner):
        """Opens a house, as often as power fails."""
        while True:
            try:
                self.houses[owner] = House(self.registry, self.pens[owner], self.founding, self.shelves[owner])
                return
            except PowerOff:
                self.shelves[owner].power(self.chance.randrange(3))

    def use(self, owner, what):
        """Does something at a house, and gives what it sends; a house that lost power comes back."""
        house = self.houses[owner]
        if self.chance.random() < self.luck["failure"]:
            self.shelves[owner].fail_after(self.chance.choice([0, 0, 1, 1, 2, 3, 4, 5]))
        try:
            sent = what(house)
        except PowerOff:
            self.shelves[owner].power(self.chance.randrange(3))
            self.start(owner)
            sent = []
        self.note(owner)
        return [(to, owner, word) for to, word in sent]

    def note(self, owner):
        """Remembers the head of a house, and looks whether it is that of the others."""
        header = self.houses[owner].head()[0]
        known = self.headers.setdefault(header[1], header)
        assert same(known, header), (known, header)
        if header[1] not in self.roots:
            self.roots[header[1]] = header[4]
            self.maps[header[1]] = dict(self.houses[owner].tree().scan((0,), (4,)))

    def height(self):
        return max(house.height() for house in self.houses.values())

    # How words are brought.

    def send(self, words):
        self.waiting.extend(words)
        while len(self.waiting) > MOST_WAITING:
            self.waiting.pop(self.chance.randrange(len(self.waiting)))

    def bring(self, to, sender, word):
        """Brings a word, and gives what is sent upon it."""
        if to in self.houses:
            return self.use(to, lambda house: house.hear(sender, word))
        if to in self.clients:
            self.tell(self.clients[to], word)
        elif to in self.liars and len(self.heard) < 400:
            self.heard.append(word)
        return []

    def bring_some(self):
        if not self.waiting:
            return
        at = self.chance.choice([0, self.chance.randrange(len(self.waiting))])
        luck = self.chance.random()
        found = self.waiting[at] if luck < self.luck["double"] else self.waiting.pop(at)
        if luck < 1 - self.luck["drop"]:
            self.send(self.bring(*found))

    def turn(self):
        """Something happens."""
        luck = self.chance.random()
        for name, what in [("tick", self.tick_one), ("pulse", self.pulse_one), ("lie", self.lie)]:
            if luck < self.luck[name]:
                what()
                return
            luck -= self.luck[name]
        if luck < 0.15:
            self.act(self.chance.choice(sorted(self.clients)))
        else:
            for _ in range(self.chance.choice([2, 10, 80])):
                self.bring_some()

    def tick_one(self):
        self.send(self.use(self.chance.choice(self.right), lambda house: house.tick()))

    def pulse_one(self):
        self.send(self.use(self.chance.choice(self.right), lambda house: house.pulse()))

    # What right sessions do.

    def somebody(self):
        return self.chance.choice(self.everybody)

    def act(self, owner):
        client = self.clients[owner]
        session = client.session
        asked = session.asked()
        if client.waits is not None:
            for word in asked:
                self.send([(to, owner, word) for to in self.chance.sample(self.everybody, 3)])
        elif not client.is_open:
            if self.chance.random() < 0.6:
                self.send([(self.somebody(), owner, session.wanted())])
            else:
                session.begin()
                client.is_open, client.base = True, session.height()
        elif asked is not None:
            if self.chance.random() < 0.05:
                session.rollback()
                client.is_open = False
            else:
                self.send([(self.somebody(), owner, asked)])
        elif session.said() and (self.chance.random() < 0.4 or len(session.said()) == 12):
            word = session.commit()
            self.commits.append(word)
            self.early[self.registry.name(word)] = [self.registry.name(other) for other, _, _ in self.told()]
            client.is_open, client.waits = False, word
        else:
            self.send([(self.somebody(), owner, session.say(self.statement(client)))])

    def told(self):
        return [told for client in self.clients.values() for told in client.outcomes]

    def statement(self, client):
        base = self.database(self.maps.get(client.base, {}))
        if client.owner == FOUNDER and self.chance.random() < 0.25:
            return ("replace", self.chance.randrange(len(OWNERS[4])), self.chance.choice(self.everybody))
        found = self.sayings.statement(base)
        return found if found[0] not in ("drop", "replace") else ("select", ("count",), (("t", "t"),), ())

    def tell(self, client, word):
        base, before = client.base, client.session.said()
        found = client.session.hear(word)
        if found is None:
            return
        if found[0] == "answer":
            client.answers.append((base, client.session.said(), client.owner))
            assert client.session.said()[:-1] == before
        if found[0] == "outcome":
            client.outcomes.append((client.waits, found[1], found[2]))
            client.waits = None

    # What liars do.

    def lie(self):
        if not self.liars:
            return
        owner = self.chance.choice(sorted(self.liars))
        makers = [self.lie_vote] * 4 + [self.lie_proposal] * 3 + [self.lie_old, self.lie_heads, self.lie_pages, self.lie_paper]
        words = self.chance.choice(makers)(self.liars[owner])
        for word in words:
            some = self.chance.sample(self.everybody, self.chance.randrange(1, len(self.everybody) + 1))
            self.send([(to, self.chance.choice([owner, owner, self.somebody()]), word) for to in some])

    def lying_height(self):
        return self.chance.choice([self.height() + 1] * 5 + [self.height(), self.height() + 2, 1])

    def lying_round(self):
        rounds = [house.stand()[1] for house in self.houses.values()]
        return self.chance.choice(rounds + [0, max(rounds) + 1])

    def names_told(self):
        bodies = [word[2] for word in self.heard if word[0] == "sealed"]
        return [body[3] for body in bodies if body[0] in ("prevote", "precommit")] or [None, 1]

    def lie_vote(self, pen):
        height, number = self.lying_height(), self.lying_round()
        name = self.chance.choice([None, self.chance.choice(self.names_told()), self.chance.choice(self.names_told())])
        found = [pen.seal((kind, height, number, name)) for kind in ("prevote", "precommit")]
        return self.chance.sample(found, self.chance.randrange(1, 3))

    def lie_proposal(self, pen):
        house = self.houses[self.chance.choice(self.right)]
        header, tree = house.head()[0], house.tree()
        number = self.lying_round()
        words = self.chance.sample(self.commits, min(len(self.commits), self.chance.randrange(3)))
        block = chosen(self.registry, tree, words, FOUNDER)
        made, _ = made_header(self.registry, header, tree, block, FOUNDER)
        luck = self.chance.random()
        if luck < 0.15:
            made = (*made[:4], made[4] + 1, made[5])
        elif luck < 0.3:
            block = (*block, ("sealed", 2000, ("transaction", 2000, 1, ())), (1, 2))
            made = (*made[:3], self.registry.name(block), *made[4:])
        elif luck < 0.35:
            block = tuple(words) + block
        before = self.chance.choice([-1, -1, -1, number - 1, 0])
        words = [pen.seal(("proposal", made[1], number, made, block, before))]
        return words + [("block", made, block)] * (luck > 0.9) + [pen.seal(("prevote", made[1], number, self.registry.name(made)))]

    def lie_old(self, pen):
        return self.chance.sample(self.heard, min(len(self.heard), 4))

    def lie_heads(self, pen):
        owner = self.chance.choice(self.right)
        found = self.houses[owner].hear(9999, ("heads?", 0))
        heads = next((word[1] for to, word in found if to == 9999 and word[0] == "heads"), ())
        header, certificate = self.chance.choice(heads) if heads else (self.houses[owner].head()[0], None)
        made = (*header[:2], self.chance.choice([header[2], 7]), *header[3:4], header[4] + 1, header[5])
        signed = [pen.seal(("precommit", made[1], 0, self.registry.name(made)))[1]]
        forged = (made, ("certificate", 0, tuple(signed) * 3))
        return [("heads", self.chance.choice([
            heads[:self.chance.randrange(len(heads) + 1)], heads[1:], (forged, *heads), (*heads, forged),
            ((made, certificate), *heads), tuple(reversed(heads)), (None, *heads),
        ]))]

    def lie_pages(self, pen):
        pages = list(self.houses[self.chance.choice(self.right)].tree().pages().values())
        some = self.chance.sample(pages, self.chance.randrange(len(pages)))
        return [self.chance.choice([
            ("pages", tuple(some)), ("pages", (("leaf", ()), ("leaf", (((3, 0), 7),)), 5)), ("pages", (*some, ("node", ()))),
            ("pages?", tuple(range(self.chance.randrange(5)))), ("heads?", self.chance.randrange(9)), ("outcome?", 2000),
        ])]

    def lie_paper(self, pen):
        client = self.clients[self.chance.choice(sorted(self.clients))]
        tree = self.houses[self.chance.choice(self.right)].tree()
        pages = list(tree.pages().values())
        some = tuple(self.chance.sample(pages, self.chance.randrange(len(pages) + 1)))
        asked = client.session.asked()
        height = self.chance.randrange(self.height() + 1)
        if asked is not None and asked[0] == "paper?":
            word = ("paper", *self.chance.choice([asked[1:], (height, asked[2])]), some)
        else:
            word = ("outcome", height, client.owner, some)
        self.send([(client.owner, pen.owner, word)])
        return []

    # What is looked at.

    def go(self, turns):
        for _ in range(turns):
            self.turn()
        return self

    def blocks(self):
        """The blocks that are known from shelves, by the headers of their heights."""
        found = {}
        for owner in self.right:
            for record in self.shelves[owner].records():
                if record[0] == "block":
                    found[record[1]] = record[2]
                if record[0] == "own" and record[2] is not None:
                    found.setdefault(record[2][0], record[2][1])
        return found

    def chain(self):
        """The headers of all heights that a right house has reached, from the highest one."""
        best = max(self.houses.values(), key=lambda house: house.height())
        sent = [word for to, word in best.hear(9999, ("heads?", 0)) if to == 9999]
        return [header for header, _ in sent[0][1]] if sent and sent[0][0] == "heads" else []

    def database(self, entries):
        """The database of a map."""
        base = tables.database([entries.get((3, place), 0) for place in range(len(self.founding[1]))])
        for key, value in entries.items():
            if key[0] == 0:
                base["tables"][key[1]] = {"kinds": value[0], "keys": value[1], "rows": []}
        for key, value in entries.items():
            if key[0] == 1:
                base["tables"][key[1]]["rows"].append(key[2:] + value)
        return base

    def check(self, test):
        """Compares all that was told and reached with points [47] and [48]."""
        self.check_seals(test)
        order, maps = self.check_chain(test)
        self.check_outcomes(test, order)
        for client in self.clients.values():
            for base, items, owner in client.answers:
                self.check_answers(test, maps[base], items, owner)
        return order

    def check_seals(self, test):
        """No right owner seals two proposals, prevotes or precommits of one height and round."""
        for owner, pen in self.pens.items():
            known = {}
            for body in pen.bodies:
                test.assertTrue(same(known.setdefault(body[:3], body), body), (owner, known[body[:3]], body))

    def check_chain(self, test):
        """The order of commits with their outcomes, and the map of each height as a second telling has it."""
        headers, blocks = self.chain(), self.blocks()
        entries = {(3, place): owner for place, owner in enumerate(self.founding[1])}
        order, maps = [], [self.database(entries)]
        lasts = {}
        for height, header in enumerate(headers, 1):
            test.assertEqual(header[1], height)
            if height in self.headers:
                test.assertTrue(same(self.headers[height], header))
            test.assertIn(header, blocks)
            base = maps[-1]
            for word in blocks[header]:
                test.assertTrue(is_commit(self.registry, word))
                _, session, (_, _, number, items) = word
                test.assertEqual(number, lasts.get(session, (0,))[0] + 1)
                outcome, base = self.outcome(base, items, session)
                lasts[session] = (number, outcome)
                order.append((word, outcome, height))
            maps.append(base)
            if height in self.maps:
                known = {**tables.entries_of(base), **{(2, session): last for session, last in lasts.items()}}
                test.assertEqual(self.maps[height], known)
                test.assertEqual(self.roots[height], header[4])
            test.assertEqual(header[5], tuple(base["owners"]))
        return order, maps

    def outcome(self, base, items, session):
        now = base
        for index, (statement, told) in enumerate(items):
            answer, now, _ = tables.said(now, statement, session, FOUNDER)
            if not same(answer, told):
                return ("refused", index, answer), base
        return ("done",), now

    def check_outcomes(self, test, order):
        names = [self.registry.name(word) for word, _, _ in order]
        test.assertEqual(len(names), len(set(names)))
        for word, outcome, height in self.told():
            at = names.index(self.registry.name(word))
            test.assertTrue(same(order[at][1], outcome), (order[at], outcome))
            test.assertLessEqual(order[at][2], height)
        for name, earlier in self.early.items():
            if name in names:
                for other in earlier:
                    test.assertLess(names.index(other), names.index(name))

    def check_answers(self, test, base, items, session):
        for statement, told in items:
            answer, base, _ = tables.said(base, statement, session, FOUNDER)
            test.assertTrue(same(answer, told), (statement, answer, told))

    # Calm turns.

    def calm_down(self, lies=0):
        """Makes calm turns until each commit that waits now is in a block; how many they were, and how many there may be.

        None if this is no run of which point [49] tells something.
        """
        self.luck["failure"] = 0
        for shelf in self.shelves.values():
            shelf.fail_after(10 ** 9)
        self.forget_replacing()
        height = self.height()
        among = [owner for owner in self.headers[height][5] if owner in self.houses]
        waiting = self.runnable(among)
        if not waiting or height not in [self.houses[owner].height() for owner in among]:
            return None
        bound = 4 * ((len(self.founding[1]) - 1) // 3 + 2) ** 2 + 12
        words, self.waiting, self.most_commits = self.waiting, [], 0
        for turn in range(1, bound + 2):
            words = self.calm_turn(among, words, lies)
            if all(last_number(self.houses[owner].tree(), word[1]) >= word[2][2] for word in waiting for owner in among):
                break
        assert self.most_commits <= 8
        return turn, bound

    def forget_replacing(self):
        """Nobody may hear commits any more that replace an owner; a house that did loses power."""
        def replaces(word):
            is_commit_word = word[0] == "sealed" and word[2][0] == "transaction"
            return is_commit_word and any(item[0][0] == "replace" for item in word[2][3])

        self.commits = [word for word in self.commits if not replaces(word)]
        self.heard = [word for word in self.heard if not replaces(word)]
        self.waiting = [found for found in self.waiting if not replaces(found[2])]
        for owner, house in self.houses.items():
            if any(replaces(word) for word in house.pool()):
                self.shelves[owner].power(0)
                self.start(owner)

    def calm_turn(self, among, words, lies):
        """A calm turn of some houses; what is sent to be brought in the next one."""
        before = {owner: self.houses[owner].height() for owner in among}
        self.bring_all(words, among)
        for owner in among:
            words.extend(self.use(owner, lambda house: house.pulse()))
        for _ in range(lies):
            self.lie()
        words.extend(self.waiting)
        self.waiting = []
        self.bring_all(words, among)
        if any(self.houses[owner].height() != before[owner] for owner in among):
            return []
        stands = {owner: self.houses[owner].stand() for owner in among}
        found = []
        for owner in among:
            if stands[owner] == min(stands.values()):
                found.extend(self.use(owner, lambda house: house.tick()))
        return found

    def bring_all(self, words, among):
        """Brings all words to some houses, in any order, with all that come of them, until none is left."""
        while words:
            to, sender, word = words.pop(self.chance.randrange(len(words)))
            if to in among:
                words.extend(self.use(to, lambda house: house.hear(sender, word)))
                self.most_commits = max(self.most_commits, len(self.pooled(among)))

    def pooled(self, among):
        """The commits in the pools of some houses, by their names."""
        return {self.registry.name(word): word for owner in among for word in self.houses[owner].pool()}

    def runnable(self, among):
        """The commits in these pools that can run as things are."""
        tree = max((self.houses[owner] for owner in among), key=lambda house: house.height()).tree()
        return [word for word in self.pooled(among).values() if word[2][2] == last_number(tree, word[1]) + 1]
