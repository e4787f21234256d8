"""A house: it keeps the map with others, and serves sessions."""

from trothbase.errors import HouseClosed, InvalidArgument, PowerOff
from trothbase.heads import judged_heads
from trothbase.heights import Heights
from trothbase.ledger import is_commit, last_number
from trothbase.names import is_at_least, is_integer, is_plain, same
from trothbase.owners import is_session
from trothbase.papers import answer_pages, are_paper_statements, outcome_pages
from trothbase.rounds import Rounds
from trothbase.takeover import TakeOver
from trothbase.words import PRECOMMIT, PREVOTE, told_height


class House:
    """The house of an owner, which works on a Shelf."""

    def __init__(self, registry, pen, founding, shelf):
        self._registry = registry
        self._pen = pen
        self._founder = founding[2]
        self._shelf = shelf
        self._losses = shelf.losses()
        records = self._founded(founding)
        self._heights = Heights(registry, founding)
        self._takeover = TakeOver(registry)
        self._pool = {}
        own = self._replayed(records)
        self._rounds = self._next_rounds()
        self._recall(own)

    def hear(self, sender, word):
        """Hears any value from a sender; the list of the pairs of an owner and a word that are sent."""
        self._need_power()
        sent = self._heard(sender, word) if is_plain(word) else []
        return sent + self._agreed()

    def tick(self):
        """Tells the house that it has waited long; what is sent."""
        self._need_power()
        self._rounds.tick(self.pool())
        return self._agreed()

    def pulse(self):
        """Tells the others again what they may have missed; what is sent."""
        self._need_power()
        sent = self._agreed()
        row = self._takeover.row()
        words = self._rounds.words() + self.pool()
        if row:
            words.append(("heads", row))
        words.append(self._asking())
        owners = self._heights.header()[5]
        for owner in self._others(owners):
            sent.extend([(owner, word) for word in words])
        if row:
            coming = [owner for owner in row[-1][0][5] if owner not in owners]
            sent.extend([(owner, ("heads", row)) for owner in self._others(coming)])
        return sent

    def height(self):
        """The height of its last header."""
        self._need_power()
        return self._heights.last()

    def head(self):
        """The pair of its last header and its certificate, None at height 0."""
        self._need_power()
        return self._heights.head()

    def stand(self):
        """The triple of the next height, the round and the step."""
        self._need_power()
        number, step = self._rounds.stand()
        return self._heights.last() + 1, number, step

    def tree(self):
        """A new Tree of its height."""
        self._need_power()
        return self._heights.tree_of(self._heights.last())

    def pool(self):
        """The list of the words in its pool."""
        self._need_power()
        return list(self._pool.values())

    def _need_power(self):
        if self._shelf.losses() != self._losses:
            raise HouseClosed("power failed on the shelf of the house")

    def _founded(self, founding):
        """The records of the shelf, whose first one is the founding."""
        if not self._shelf.is_on():
            raise PowerOff("power is off")
        records = self._shelf.records()
        if records == []:
            self._store(founding)
            return self._shelf.records()
        if not same(records[0], founding):
            raise InvalidArgument("the shelf is that of another founding")
        return records

    def _store(self, record):
        self._shelf.append(record)
        self._shelf.sync()

    def _replayed(self, records):
        """Goes on to the last height in records; the own records of the height behind it."""
        own = []
        for record in records:
            match record:
                case ("own", _, _, _):
                    own.append(record)
                case ("block", header, block, certificate):
                    self._heights.add_block(header, block, certificate)
                    own = []
                case ("state", heads, pages):
                    self._heights.add_state(heads, pages)
                    own = []
        return own

    def _recall(self, own):
        """Lets the agreement know again what the own records tell."""
        for _, body, grounds, reason in own:
            for word in reason:
                self._rounds.hear(word)
            if grounds is not None:
                self._recall_grounds(body, grounds)
            self._rounds.hear(self._pen.seal(body))
            self._rounds.take(body[2], reason)

    def _recall_grounds(self, body, grounds):
        header, block, owners = grounds
        self._rounds.hear(("block", header, block))
        for owner in owners:
            self._rounds.hear(("sealed", owner, (PREVOTE, *body[1:])))

    def _next_rounds(self):
        header = self._heights.header()
        return Rounds(self._registry, self._pen.owner, header, self.tree(), self._founder)

    def _asking(self):
        return ("heads?", self._heights.last())

    def _others(self, owners):
        """The ascending list of owners, each once and without its own."""
        return [owner for owner in sorted(set(owners)) if owner != self._pen.owner]

    def _agreed(self):
        """Does what the agreement asks for as long as there is something; what is sent."""
        sent = []
        while True:
            found = self._rounds.due(self.pool())
            if found is not None:
                sent.extend(self._seal(found))
            elif self._rounds.decided() is not None:
                sent.extend(self._decided())
            else:
                return sent

    def _seal(self, found):
        """Stores and seals what is due; what is sent."""
        body, grounds, reason = found
        self._store(("own", body, grounds, reason))
        word = self._pen.seal(body)
        self._rounds.hear(word)
        return [(owner, word) for owner in self._others(self._heights.header()[5])]

    def _decided(self):
        """Goes on to the height that is decided; what is sent."""
        header, block, certificate = self._rounds.decided()
        owners = self._heights.header()[5] + header[5]
        self._store(("block", header, block, certificate))
        self._heights.add_block(header, block, certificate)
        self._move()
        return [(owner, ("heads", ((header, certificate),))) for owner in self._others(owners)]

    def _move(self):
        """Makes all the rest go on to the height of the last header."""
        tree = self.tree()
        self._takeover.go_on(self._heights.last(), self._heights.pages())
        self._pool = {name: word for name, word in self._pool.items() if _is_waiting(tree, word)}
        self._rounds = self._next_rounds()

    def _heard(self, sender, word):
        """Does what a plain value asks for; what is sent to the sender."""
        match word:
            case ("sealed", _, _):
                return self._hear_sealed(sender, word)
            case ("block", _, _):
                self._rounds.hear(word)
                return []
            case ("heads", heads):
                return self._hear_heads(sender, heads)
            case ("pages", pages):
                return self._hear_pages(sender, pages)
        told = self._told(sender, word)
        return [] if told is None else [(sender, told)]

    def _hear_sealed(self, sender, word):
        height = told_height(self._registry, word)
        last = self._heights.last()
        if height is None:
            if is_commit(self._registry, word):
                self._hear_commit(word)
            return []
        if height == last + 1:
            self._rounds.hear(word)
            return []
        if height > last:
            return [(sender, self._asking())]
        return [(sender, ("heads", self._heights.heads_from(height)))] if height >= 1 else []

    def _hear_commit(self, word):
        if _is_waiting(self.tree(), word):
            self._pool.setdefault(self._registry.name(word), word)

    def _told(self, sender, word):
        """The word that answers a question, or None."""
        match word:
            case ("heads?", height):
                return self._told_heads(height)
            case ("pages?", names):
                return self._told_pages(names)
            case ("paper?", height, statements):
                return self._told_paper(sender, height, statements)
            case ("outcome?", session):
                return self._told_outcome(session)
            case _:
                return None

    def _told_heads(self, height):
        last = self._heights.last()
        if not is_at_least(height, 0) or height == last:
            return None
        return ("heads", self._heights.heads_from(height + 1)) if height < last else self._asking()

    def _told_pages(self, names):
        if not isinstance(names, tuple) or not all([is_integer(name) for name in names]):
            return None
        own = self._heights.pages()
        pages = tuple([own[name] for name in names if name in own])
        return ("pages", pages) if pages else None

    def _told_paper(self, sender, height, statements):
        if not is_session(sender) or not self._heights.was_at(height) or not are_paper_statements(statements):
            return None
        pages = answer_pages(self._heights.tree_of(height), statements, sender, self._founder)
        return ("paper", height, statements, pages)

    def _told_outcome(self, session):
        if not is_integer(session):
            return None
        return ("outcome", self._heights.last(), session, outcome_pages(self.tree(), session))

    def _hear_heads(self, sender, heads):
        taken = judged_heads(self._registry, self._heights.header(), heads)
        if taken == []:
            return []
        header, (_, number, owners) = taken[0]
        for owner in owners:
            body = (PRECOMMIT, header[1], number, self._registry.name(header))
            self._rounds.hear(("sealed", owner, body))
        self._takeover.aim_at(taken)
        return self._going_on(sender)

    def _hear_pages(self, sender, pages):
        if not isinstance(pages, tuple) or not self._takeover.aims():
            return []
        if not self._takeover.keep(pages, self._heights.pages()):
            return []
        return self._going_on(sender)

    def _going_on(self, sender):
        """Takes over what is complete, and asks the sender for the rest; what is sent."""
        own = self._heights.pages()
        height = self._takeover.arrived(own)
        if height is not None:
            heads, pages = self._takeover.state(height, own)
            self._store(("state", heads, pages))
            self._heights.add_state(heads, pages)
            self._move()
        if not self._takeover.aims():
            return []
        return [(sender, ("pages?", tuple(self._takeover.lacking(self._heights.pages()))))]


def _is_waiting(tree, word):
    """Whether the number of a commit is greater than the last one of its session."""
    _, session, (_, _, number, _) = word
    return number > last_number(tree, session)
