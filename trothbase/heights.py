"""The heights that a house has passed, and the pages that it has."""

from trothbase.ledger import founding_header, founding_tree, run_block
from trothbase.names import is_integer
from trothbase.trees import Tree


class Heights:
    """The heads of all heights behind a founding, and the trees of those at which a house was."""

    def __init__(self, registry, founding):
        self._registry = registry
        self._founder = founding[2]
        self._heads = [(founding_header(registry, founding), None)]
        self._pages = founding_tree(registry, founding).pages()
        self._stays = {0: True}

    def last(self):
        """The last height."""
        return len(self._heads) - 1

    def head(self):
        """The pair of the last header and its certificate, None at height 0."""
        return self._heads[-1]

    def header(self):
        """The last header."""
        return self._heads[-1][0]

    def heads_from(self, height):
        """The tuple of the heads from a height on."""
        return tuple(self._heads[height:])

    def was_at(self, height):
        """Whether a plain value is a height at which the house was."""
        return is_integer(height) and height in self._stays

    def tree_of(self, height):
        """A new Tree of a height at which the house was."""
        return Tree(self._registry, self._heads[height][0][4], self._pages)

    def pages(self):
        """The dict from names to all pages that the house has."""
        return dict(self._pages)

    def add_block(self, header, block, certificate):
        """Goes on with a block that can run."""
        behind = run_block(self._registry, self.tree_of(self.last()), block, self._founder)
        self._pages = behind.pages()
        self._heads.append((header, certificate))
        self._stays[self.last()] = True

    def add_state(self, heads, pages):
        """Goes on with heads, and the pages of the tree of the last one that were not there."""
        for page in pages:
            self._pages[self._registry.name(page)] = page
        self._heads.extend(list(heads))
        self._stays[self.last()] = True
