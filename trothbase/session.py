"""A session: it runs transactions at any house, and judges by itself what it is told."""

from trothbase.errors import InvalidArgument, MissingPage, NoTransaction, StillWaiting, TransactionOpen
from trothbase.forms import is_statement
from trothbase.heads import judged_heads
from trothbase.ledger import MOST_ITEMS, founding_header
from trothbase.names import is_integer, is_plain, same
from trothbase.papers import answers_now
from trothbase.trees import Tree, is_page


def judged_pages(registry, pages):
    """The dict of the pages in a tuple by their true names; takes any value."""
    if not isinstance(pages, tuple) or not is_plain(pages):
        return {}
    return {registry.name(page): page for page in pages if is_page(page)}


def judged_answers(registry, root, pages, statements, session, founder):
    """The list of the answers to statements on the tree of a root, or None if a page is missing."""
    tree = Tree(registry, root, judged_pages(registry, pages))
    try:
        return answers_now(tree, statements, session, founder)
    except MissingPage:
        return None


class Session:
    """The session of an owner, which trusts a founding."""

    def __init__(self, registry, pen, founding):
        self._registry = registry
        self._pen = pen
        self._founder = founding[2]
        self._headers = [founding_header(registry, founding)]
        self._base = None
        self._said = ()
        self._statement = None
        self._number = 0
        self._word = None

    def height(self):
        """The height of the last header that it trusts."""
        return len(self._headers) - 1

    def wanted(self):
        """The word that asks a house for further heads."""
        return ("heads?", self.height())

    def begin(self):
        """Opens a transaction at the last header that it trusts."""
        if self._base is not None:
            raise TransactionOpen("a transaction is open")
        if self._word is not None:
            raise StillWaiting("the outcome of the last commit was not told yet")
        self._base = self._headers[-1]

    def say(self, statement):
        """Says a statement; the word for a house."""
        self._need_transaction()
        self._need_no_paper()
        if not is_statement(statement):
            raise InvalidArgument("this is no statement")
        if len(self._said) == MOST_ITEMS:
            raise InvalidArgument("the transaction has as many statements as it may have")
        self._statement = statement
        return self._paper_word()

    def rollback(self):
        """Ends the transaction."""
        self._need_transaction()
        self._end()

    def commit(self):
        """Ends the transaction and seals its commit; the word for houses."""
        self._need_transaction()
        self._need_no_paper()
        if self._said == ():
            raise InvalidArgument("nothing was said in the transaction")
        self._number += 1
        self._word = self._pen.seal(("transaction", self._pen.owner, self._number, self._said))
        self._end()
        return self._word

    def asked(self):
        """The word, or the triple of words, to be sent to a house now; or None."""
        if self._statement is not None:
            return self._paper_word()
        if self._word is not None:
            return self._word, self.wanted(), ("outcome?", self._pen.owner)
        return None

    def hear(self, word):
        """Hears any value; what it makes known, or None."""
        if not is_plain(word):
            return None
        match word:
            case ("heads", heads):
                return self._hear_heads(heads)
            case ("paper", height, statements, pages):
                return self._hear_paper(height, statements, pages)
            case ("outcome", height, session, pages):
                return self._hear_outcome(height, session, pages)
            case _:
                return None

    def said(self):
        """The tuple of the items of the open transaction."""
        return self._said

    def _need_transaction(self):
        if self._base is None:
            raise NoTransaction("no transaction is open")

    def _need_no_paper(self):
        if self._statement is not None:
            raise StillWaiting("the paper of the last statement was not judged yet")

    def _end(self):
        self._base = None
        self._said = ()
        self._statement = None

    def _statements(self):
        return (*self._said, self._statement)

    def _paper_word(self):
        return ("paper?", self._base[1], self._statements())

    def _hear_heads(self, heads):
        taken = judged_heads(self._registry, self._headers[-1], heads)
        self._headers.extend([header for header, _ in taken])
        return ("heads", len(taken)) if taken else None

    def _hear_paper(self, height, statements, pages):
        if self._statement is None or not same(("paper?", height, statements), self._paper_word()):
            return None
        answers = judged_answers(
            self._registry, self._base[4], pages, statements, self._pen.owner, self._founder,
        )
        if answers is None:
            return None
        if not all([same(now, told) for now, (_, told) in zip(answers, self._said)]):
            return None
        self._said = (*self._said, (self._statement, answers[-1]))
        self._statement = None
        return ("answer", answers[-1])

    def _hear_outcome(self, height, session, pages):
        if self._word is None or not same(session, self._pen.owner):
            return None
        if not is_integer(height) or not 0 <= height <= self.height():
            return None
        tree = Tree(self._registry, self._headers[height][4], judged_pages(self._registry, pages))
        try:
            entry = tree.get((2, session))
        except MissingPage:
            return None
        if entry is None or entry[0] != self._number:
            return None
        self._word = None
        return ("outcome", entry[1], height)
