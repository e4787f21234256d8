"""The agreement of a height, at one house."""

from trothbase.errors import MissingPage
from trothbase.ledger import can_run, chosen, made_header
from trothbase.names import same
from trothbase.votes import Votes
from trothbase.words import PRECOMMIT, PREVOTE, PROPOSAL, proposer


class Rounds:
    """The agreement of the height behind a header with its tree, at the house of an owner."""

    def __init__(self, registry, owner, header, tree, founder):
        self._registry = registry
        self._owner = owner
        self._elder = header
        self._tree = tree
        self._founder = founder
        self._votes = Votes(registry, header)
        self._turn = 0
        self._reason = ()
        self._patience = None
        self._judged = {}
        self._decision = None

    def hear(self, word):
        """Takes any value; True if something of this height was not known."""
        return self._votes.hear(word)

    def take(self, number, reason):
        """Goes to a round with a reason, if it is not less than its own one."""
        if number >= self._turn:
            self._turn = number
            self._reason = reason
            self._patience = None

    def due(self, pool):
        """Does what can be done without a seal; the body that is to be sealed next, its grounds and its reason."""
        before = (self._turn, self._reason, self._patience)
        try:
            return self._done(pool)
        except MissingPage:
            self._turn, self._reason, self._patience = before
            raise

    def tick(self, pool):
        """Tells the house that it has waited long."""
        if self._decision is None and self._is_awake(pool) and self._has_waited():
            self._patience = self.stand()

    def decided(self):
        """None, or the header, the block and the certificate that due has found."""
        return self._decision

    def stand(self):
        """The pair of the round and the step."""
        if not self._votes.has_sealed(self._owner, PREVOTE, self._turn):
            return self._turn, 0
        if not self._votes.has_sealed(self._owner, PRECOMMIT, self._turn):
            return self._turn, 1
        return self._turn, 2

    def words(self):
        """The list of all known words, behind the block of the lock."""
        lock = self._votes.lock(self._owner)
        known = None if lock is None else self._votes.block_of(lock[1])
        if known is None:
            return self._votes.words()
        header, block = known
        return [("block", header, block)] + self._votes.words()

    def _has_waited(self):
        _, step = self.stand()
        if step == 0:
            return True
        return self._votes.are_many(PREVOTE if step == 1 else PRECOMMIT, self._turn)

    def _is_awake(self, pool):
        return self._votes.is_any() or any([can_run(self._registry, self._tree, word) for word in pool])

    def _done(self, pool):
        if not self._is_awake(pool):
            return None
        while self._decision is None:
            self._decision = self._agreement()
            if self._decision is not None:
                return None
            if self._follows():
                continue
            # A house without a place seals nothing, so its round ends only
            # when others are ahead.
            if self._owner not in self._elder[5]:
                return None
            found = self._sealable(pool)
            if found is not None:
                body, grounds = found
                return body, grounds, self._reason
            if not self._gives_up():
                return None
        return None

    def _is_right(self, name):
        """Whether a header that is known with its block is the one that the block makes."""
        if name not in self._judged:
            header, block = self._votes.block_of(name)
            made = made_header(self._registry, self._elder, self._tree, block, self._founder)
            if made is None:
                # Not kept: a commit of the block may be sealed later.
                return False
            self._judged[name] = same(made[0], header)
        return self._judged[name]

    def _first_right(self, pairs):
        """The first pair of a round and a name whose header is right, or None."""
        for pair in pairs:
            if self._is_right(pair[1]):
                return pair
        return None

    def _agreement(self):
        """The header, the block and the certificate that a quorum have agreed on, or None."""
        pair = self._first_right(self._votes.agreed(PRECOMMIT))
        if pair is None:
            return None
        number, name = pair
        header, block = self._votes.block_of(name)
        return header, block, ("certificate", number, self._votes.voters(PRECOMMIT, number, name))

    def _follows(self):
        """Goes to the greatest round that enough others have reached; whether there is one."""
        many = (len(self._elder[5]) - 1) // 3 + 1
        number = self._votes.reached(many)
        if number is None or number <= self._turn:
            return False
        self.take(number, self._votes.witnesses(number, many))
        return True

    def _gives_up(self):
        """Goes to the next round if it is over with this one; whether it is."""
        if self.stand()[1] < 2 or not self._is_impatient():
            return False
        self.take(self._turn + 1, ())
        return True

    def _is_impatient(self):
        return self._patience == self.stand()

    def _sealable(self, pool):
        """The pair of a body that is to be sealed and its grounds, or None."""
        is_silent = not self._votes.has_sealed(self._owner, PROPOSAL, self._turn)
        if is_silent and proposer(self._elder, self._turn) == self._owner:
            return self._proposal(pool), None
        _, step = self.stand()
        if step == 0:
            return self._prevote()
        if step == 1:
            return self._precommit()
        return None

    def _proposal(self, pool):
        earlier = [row for row in self._votes.agreed(PREVOTE) if row[0] < self._turn]
        pair = self._first_right(sorted(earlier, key=lambda row: (-row[0], row[1])))
        if pair is None:
            block = chosen(self._registry, self._tree, pool, self._founder)
            header, _ = made_header(self._registry, self._elder, self._tree, block, self._founder)
            before = -1
        else:
            before, name = pair
            header, block = self._votes.block_of(name)
        return PROPOSAL, self._elder[1] + 1, self._turn, header, block, before

    def _prevote(self):
        proposal = self._votes.proposal(self._turn)
        if proposal is not None:
            _, _, _, header, _, before = proposal
            name = self._registry.name(header)
            if before == -1 or self._votes.has_quorum(PREVOTE, before, name):
                return self._vote(PREVOTE, name if self._is_agreeable(name, before) else None)
        return self._vote(PREVOTE, None) if self._is_impatient() else None

    def _is_agreeable(self, name, before):
        """Whether a proposed header is right, and the lock does not bar it."""
        lock = self._votes.lock(self._owner)
        is_free = lock is None or lock[1] == name or lock[0] <= before
        return is_free and self._is_right(name)

    def _precommit(self):
        pair = self._first_right([row for row in self._votes.agreed(PREVOTE) if row[0] == self._turn])
        if pair is not None:
            return self._vote(PRECOMMIT, pair[1])
        if self._votes.has_quorum(PREVOTE, self._turn, None) or self._is_impatient():
            return self._vote(PRECOMMIT, None)
        return None

    def _vote(self, kind, name):
        """The pair of the body of a vote and its grounds."""
        body = (kind, self._elder[1] + 1, self._turn, name)
        if kind == PREVOTE or name is None:
            return body, None
        header, block = self._votes.block_of(name)
        return body, (header, block, self._votes.voters(PREVOTE, self._turn, name))
