"""A town for tests: a registry, owners with their pens, and what they seal."""

from trothbase.ledger import founding_header, founding_tree, made_header, run_items
from trothbase.names import Registry

FOUNDER = 1000
OWNERS = {
    4: (11, 12, 13, 14),
    7: (27, 21, 26, 22, 25, 23, 24),
    10: (1, 999, 2, 998, 3, 997, 4, 996, 5, 995),
}
# What a statement is told that is the first of all in this town.
CREATE = ("create", "t", ("integer", "text"), 1)
CREATED = (CREATE, ("answer", True))


class Town:
    def __init__(self, many=4):
        self.registry = Registry()
        self.owners = OWNERS[many]
        self.founding = ("founding", self.owners, FOUNDER)
        self.pens = {}

    def pen(self, owner):
        if owner not in self.pens:
            self.pens[owner] = self.registry.pen(owner)
        return self.pens[owner]

    def seal(self, owner, body):
        return self.pen(owner).seal(body)

    def tree(self):
        return founding_tree(self.registry, self.founding)

    def header(self):
        return founding_header(self.registry, self.founding)

    def commit(self, session, number, *items):
        return self.seal(session, ("transaction", session, number, items))

    def told(self, tree, session, number, *statements):
        """The commit of statements with the answers that they have on a tree."""
        items = [(statement, None) for statement in statements]
        answers, _ = run_items(tree, tuple(items), session, FOUNDER)
        return self.commit(session, number, *zip(statements, answers))

    def certificate(self, header, owners, turn=0):
        """A certificate that these owners seal, whoever they are."""
        for owner in owners:
            self.seal(owner, ("precommit", header[1], turn, self.registry.name(header)))
        return ("certificate", turn, tuple(owners))

    def head(self, header, tree, block, turn=0):
        """The head of a block behind a header, certified by all, and its tree."""
        made, behind = made_header(self.registry, header, tree, block, FOUNDER)
        return (made, self.certificate(made, sorted(header[5]), turn)), behind

    def heads(self, many, block=()):
        """The heads of so many heights in a row."""
        header, tree, found = self.header(), self.tree(), []
        for _ in range(many):
            head, tree = self.head(header, tree, block)
            header = head[0]
            found.append(head)
            block = ()
        return found
