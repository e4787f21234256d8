"""A second telling of the agreement of a height.

It keeps nothing but lists of what was heard, and asks all of them again for
each question; it is written otherwise than the program, and slowly.
"""

from trothbase.ledger import chosen, is_commit, last_number, made_header


class Telling:
    def __init__(self, registry, owner, header, tree, founder):
        self.registry, self.owner, self.header, self.tree, self.founder = registry, owner, header, tree, founder
        self.owners = header[5]
        self.height = header[1] + 1
        self.f = (len(self.owners) - 1) // 3
        self.known = []
        self.blocks = []
        self.number, self.reason, self.patient = 0, (), None
        self.end = None

    # What is heard; all values that tests give are words of the right form or plainly none.

    def hear(self, word):
        if word[0] == "block":
            return self.learn(word[1], word[2])
        news = word not in self.known
        if news:
            self.known.append(word)
        if word[2][0] == "proposal":
            self.learn(word[2][3], word[2][4])
        return news

    def learn(self, header, block):
        news = (header, block) not in self.blocks
        if news:
            self.blocks.append((header, block))
        return news

    def bodies(self, kind, number, owner=None):
        found = [word for word in self.known if word[2][0] == kind and word[2][2] == number]
        return [word[2] for word in found if owner in (None, word[1])]

    def voters(self, kind, number, name):
        return sorted({word[1] for word in self.known if word[2][0] == kind and word[2][2:] == (number, name)})

    def is_quorum(self, owners):
        return len(set(owners)) >= 2 * self.f + 1

    def rounds(self):
        return sorted({word[2][2] for word in self.known})

    def right(self):
        """The known and right headers with their names and blocks, in the order of names."""
        found = []
        for header, block in self.blocks:
            made = made_header(self.registry, self.header, self.tree, block, self.founder)
            if made is not None and made[0] == header:
                found.append((self.registry.name(header), header, block))
        return sorted(found)

    # What is told of it.

    def step(self):
        if not self.bodies("prevote", self.number, self.owner):
            return 0
        return 2 if self.bodies("precommit", self.number, self.owner) else 1

    def stand(self):
        return self.number, self.step()

    def lock(self):
        own = [word[2] for word in self.known if word[1] == self.owner and word[2][0] == "precommit"]
        return max([(body[2], body[3]) for body in own if body[3] is not None], default=None)

    def words(self):
        lock = self.lock()
        held = [("block", *pair) for pair in self.blocks if lock and self.registry.name(pair[0]) == lock[1]]
        return held + self.known

    def awake(self, pool):
        able = [word for word in pool if is_commit(self.registry, word)]
        return bool(self.known) or any(word[2][2] == last_number(self.tree, word[1]) + 1 for word in able)

    def take(self, number, reason):
        if number >= self.number:
            self.number, self.reason, self.patient = number, reason, None

    def tick(self, pool):
        needed = {0: None, 1: "prevote", 2: "precommit"}[self.step()]
        sealed = [word[1] for word in self.known if word[2][0] == needed and word[2][2] == self.number]
        if self.end is None and self.awake(pool) and (needed is None or self.is_quorum(sealed)):
            self.patient = self.stand()

    def is_over(self):
        return self.patient == self.stand()

    # The nine rules.

    def due(self, pool):
        if not self.awake(pool):
            return None
        while self.end is None:
            done = None
            for rule in [self.one, self.two, self.three, self.four, self.five, self.six, self.seven, self.eight, self.nine]:
                if rule not in (self.one, self.two) and self.owner not in self.owners:
                    continue
                done = rule(pool)
                if done is not None:
                    break
            if done is None:
                return None
            if done != "done":
                return (*done, self.reason)
        return None

    def one(self, pool):
        for number in self.rounds():
            for name, header, block in self.right():
                voters = self.voters("precommit", number, name)
                if self.is_quorum(voters):
                    self.end = (header, block, ("certificate", number, tuple(voters)))
                    return "done"

    def two(self, pool):
        for number in reversed(self.rounds()):
            ahead = [word for word in self.known if word[2][2] >= number]
            owners = sorted({word[1] for word in ahead})
            if number > self.number and len(owners) > self.f:
                least = owners[:self.f + 1]
                self.take(number, tuple(next(word for word in ahead if word[1] == owner) for owner in least))
                return "done"

    def three(self, pool):
        if self.owners[(self.height + self.number) % len(self.owners)] != self.owner:
            return None
        if self.bodies("proposal", self.number, self.owner):
            return None
        for number in reversed(self.rounds()):
            for name, header, block in self.right():
                if number < self.number and self.is_quorum(self.voters("prevote", number, name)):
                    return ("proposal", self.height, self.number, header, block, number), None
        block = chosen(self.registry, self.tree, pool, self.founder)
        header = made_header(self.registry, self.header, self.tree, block, self.founder)[0]
        return ("proposal", self.height, self.number, header, block, -1), None

    def four(self, pool):
        proposals = self.bodies("proposal", self.number)
        if self.step() != 0 or not proposals:
            return None
        header, before = proposals[0][3], proposals[0][5]
        name = self.registry.name(header)
        if before != -1 and not self.is_quorum(self.voters("prevote", before, name)):
            return None
        lock = self.lock()
        is_right = header in [other for _, other, _ in self.right()]
        if is_right and (lock is None or lock[1] == name or lock[0] <= before):
            return ("prevote", self.height, self.number, name), None
        return ("prevote", self.height, self.number, None), None

    def five(self, pool):
        if self.step() == 0 and self.is_over():
            return ("prevote", self.height, self.number, None), None

    def six(self, pool):
        for name, header, block in self.right() if self.step() == 1 else []:
            voters = self.voters("prevote", self.number, name)
            if self.is_quorum(voters):
                return ("precommit", self.height, self.number, name), (header, block, tuple(voters))

    def seven(self, pool):
        if self.step() == 1 and self.is_quorum(self.voters("prevote", self.number, None)):
            return ("precommit", self.height, self.number, None), None

    def eight(self, pool):
        if self.step() == 1 and self.is_over():
            return ("precommit", self.height, self.number, None), None

    def nine(self, pool):
        if self.step() == 2 and self.is_over():
            self.take(self.number + 1, ())
            return "done"
