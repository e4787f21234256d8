"""What a house knows of the words of a height."""

from trothbase.heads import quorum
from trothbase.names import is_plain
from trothbase.words import PRECOMMIT, PROPOSAL, is_known_block, mark


class Votes:
    """The known words of the height behind a header, and the headers that are known with their blocks."""

    def __init__(self, registry, header):
        self._registry = registry
        self._elder = header
        self._quorum = quorum(header[5])
        self._words = []
        self._marks = {}
        self._proposals = {}
        self._sealers = {}
        self._voters = {}
        self._quorums = {}
        self._latest = {}
        self._blocks = {}

    def hear(self, word):
        """Takes any value; whether something of the height was not known."""
        if not is_plain(word):
            return False
        match word:
            case ("block", header, block):
                return is_known_block(self._registry, self._elder, header, block) and self._learn(header, block)
        found = mark(self._registry, self._elder, word)
        if found is None or found in self._marks:
            return False
        self._note(found, word)
        return True

    def _note(self, found, word):
        owner, kind, number, name, _ = found
        self._marks[found] = True
        self._words.append(word)
        sealers = self._sealers.setdefault((kind, number), {})
        sealers[owner] = True
        self._latest[owner] = max(number, self._latest.get(owner, 0))
        if kind == PROPOSAL:
            body = word[2]
            self._proposals.setdefault(number, body)
            self._learn(body[3], body[4])
        else:
            self._count(kind, number, name, owner)

    def _count(self, kind, number, name, owner):
        voters = self._voters.setdefault((kind, number, name), {})
        voters[owner] = True
        if len(voters) == self._quorum:
            self._quorums.setdefault(kind, []).append((number, name))

    def _learn(self, header, block):
        """Knows a header with its block; whether it was not known."""
        name = self._registry.name(header)
        if name in self._blocks:
            return False
        self._blocks[name] = (header, block)
        return True

    def words(self):
        """The list of all known words, in the order in which they were heard."""
        return list(self._words)

    def is_any(self):
        """Whether any word is known."""
        return len(self._words) > 0

    def block_of(self, name):
        """The pair of the header with a name and its block, or None if it is not known."""
        return self._blocks.get(name)

    def proposal(self, number):
        """The body of the first proposal of a round that was heard, or None."""
        return self._proposals.get(number)

    def has_sealed(self, owner, kind, number):
        """Whether a word of an owner of this kind and round is known."""
        return owner in self._sealers.get((kind, number), {})

    def are_many(self, kind, number):
        """Whether a quorum have sealed words of this kind and round, for whatever."""
        return len(self._sealers.get((kind, number), {})) >= self._quorum

    def voters(self, kind, number, name):
        """The ascending tuple of the owners whose votes for a name are known."""
        return tuple(sorted(self._voters.get((kind, number, name), {})))

    def has_quorum(self, kind, number, name):
        """Whether a quorum have voted for a name, or for None."""
        return len(self._voters.get((kind, number, name), {})) >= self._quorum

    def agreed(self, kind):
        """The ascending list of the pairs of a round and the name of a known header that has a quorum in it."""
        return sorted([pair for pair in self._quorums.get(kind, []) if pair[1] in self._blocks])

    def lock(self, owner):
        """The pair of the greatest round and the name of a precommit of an owner with a name, or None."""
        found = None
        for kind, number, name in self._voters:
            own = kind == PRECOMMIT and name is not None and owner in self._voters[(kind, number, name)]
            if own and (found is None or number > found[0]):
                found = (number, name)
        return found

    def reached(self, many):
        """The greatest round of which, or of a greater one, so many owners have sealed words; or None."""
        numbers = sorted(self._latest.values(), reverse=True)
        return numbers[many - 1] if len(numbers) >= many else None

    def witnesses(self, number, many):
        """The tuple of the first word from a round on of each of so many least owners who have such."""
        owners = sorted([owner for owner in self._latest if self._latest[owner] >= number])
        return tuple([self._first_from(owner, number) for owner in owners[:many]])

    def _first_from(self, owner, number):
        for word in self._words:
            if word[1] == owner and word[2][2] >= number:
                return word
        return None
