"""The map as a tree of pages that are called by their names."""

from trothbase.errors import MissingPage
from trothbase.names import is_at_least, is_integer, is_plain

MOST_PARTS = 6
EMPTY_LEAF = ("leaf", ())


def order(key):
    """A tuple by which keys are ordered if it is compared as tuples are."""
    return tuple([(0, part) if isinstance(part, int) else (1, part) for part in key])


def is_page(value):
    """Whether any value whatever has the form of a page."""
    if not is_plain(value):
        return False
    match value:
        case ("leaf", entries):
            return _are_pairs(entries, 0) and all([_is_key(key) for key, _ in entries])
        case ("node", children):
            return _are_pairs(children, 1) and all([_is_child(child) for child in children])
        case _:
            return False


def _are_pairs(parts, least):
    if not isinstance(parts, tuple) or not least <= len(parts) <= MOST_PARTS:
        return False
    return all([isinstance(part, tuple) and len(part) == 2 for part in parts])


def _is_key(value):
    return isinstance(value, tuple) and all([is_integer(part) or isinstance(part, str) for part in value])


def _is_child(pair):
    first, name = pair
    return _is_key(first) and is_at_least(name, 1)


def _cut(parts):
    """The pieces of a list: as few as can be, and as long as one another."""
    pieces = []
    many = (len(parts) + MOST_PARTS - 1) // MOST_PARTS
    start = 0
    for left in range(many, 0, -1):
        # Rounded up, so that the longer pieces come first.
        end = start + (len(parts) - start + left - 1) // left
        pieces.append(tuple(parts[start:end]))
        start = end
    return pieces


def _drafts(kind, parts):
    """The pairs of the first key and the page for each piece of a list."""
    return [(piece[0][0], (kind, piece)) for piece in _cut(parts)]


def merged(entries, changes):
    """The entries with changes over them, in ascending order of keys."""
    table = {key: value for key, value in entries}
    for key, value in changes:
        if value is None:
            table.pop(key, None)
        else:
            table[key] = value
    return [(key, table[key]) for key in sorted(table, key=order)]


def _shares(children, changes):
    """For each child of a node, the changes that it gets."""
    shares = []
    start = 0
    for following, _ in children[1:]:
        bound = order(following)
        end = start
        while end < len(changes) and order(changes[end][0]) < bound:
            end += 1
        shares.append(changes[start:end])
        start = end
    shares.append(changes[start:])
    return shares


def _child_at(children, place):
    """The name of the child that can have the key with this order."""
    found = children[0][1]
    for first, name in children[1:]:
        if order(first) <= place:
            found = name
    return found


def _children_between(children, low, high):
    """The names of the children that can have keys from low on before high."""
    names = []
    last = len(children) - 1
    for at, (first, name) in enumerate(children):
        starts = at == 0 or order(first) < high
        ends = at == last or low < order(children[at + 1][0])
        if starts and ends:
            names.append(name)
    return names


class Tree:
    """A tree with the name of its root; some pages may not be there."""

    def __init__(self, registry, root, pages):
        self.root = root
        self._registry = registry
        self._pages = dict(pages)
        self._visited = {}

    def get(self, key):
        """The value of a key, or None."""
        place = order(key)
        kind, parts = self._visit(self.root)
        while kind == "node":
            kind, parts = self._visit(_child_at(parts, place))
        for own, value in parts:
            if own == key:
                return value
        return None

    def scan(self, low, high):
        """The list of the entries from low on before high."""
        start = order(low)
        end = order(high)
        found = []
        waiting = [self.root]
        while waiting:
            kind, parts = self._visit(waiting.pop())
            if kind == "leaf":
                found.extend([entry for entry in parts if start <= order(entry[0]) < end])
            else:
                # What is taken from the end is visited first: the least child.
                waiting.extend(_children_between(parts, start, end)[::-1])
        return found

    def changed(self, changes):
        """The Tree after changes, which has the pages of this one, too."""
        # Names are asked for last, when no page can be missing any more:
        # until then a new page is a draft, which contains its new children.
        found = self._replaced(self.root, changes)
        while len(found) > 1:
            found = _drafts("node", found)
        top = self._top(found[0][1] if found else EMPTY_LEAF)
        pages = dict(self._pages)
        root = self._laid(top, pages)
        return Tree(self._registry, root, pages)

    def visited(self):
        """The sorted list of the names of the pages that were visited."""
        return sorted(self._visited)

    def pages(self):
        """A dict with the pages that the tree has."""
        return dict(self._pages)

    def _page(self, name):
        if name not in self._pages:
            raise MissingPage(f"page {name} is not there")
        return self._pages[name]

    def _visit(self, name):
        page = self._page(name)
        self._visited[name] = True
        return page

    def _replaced(self, name, changes):
        """The drafts, with their first keys, in the place of a page."""
        kind, parts = self._visit(name)
        if kind == "leaf":
            return _drafts("leaf", merged(parts, changes))
        children = []
        for child, share in zip(parts, _shares(parts, changes)):
            if share:
                children.extend(self._replaced(child[1], share))
            else:
                children.append(child)
        return _drafts("node", children)

    def _top(self, draft):
        """The draft or name that is the root in the place of a draft."""
        kind, parts = draft
        while kind == "node" and len(parts) == 1:
            draft = parts[0][1]
            kind, parts = self._page(draft) if isinstance(draft, int) else draft
        return draft

    def _laid(self, draft, pages):
        """The name of a draft, which is put into pages with all beneath it."""
        if isinstance(draft, int):
            return draft
        kind, parts = draft
        if kind == "node":
            parts = tuple([(first, self._laid(below, pages)) for first, below in parts])
        page = (kind, parts)
        name = self._registry.name(page)
        pages[name] = page
        return name


def empty(registry):
    """The Tree of the empty map."""
    root = registry.name(EMPTY_LEAF)
    return Tree(registry, root, {root: EMPTY_LEAF})


def names_told(root, pages):
    """The sorted list of the names of all pages of a tree that are told by pages that are there."""
    # A page could be made up that tells its own name to come as that of a
    # child: each name is looked at once.
    seen = set()
    waiting = [root]
    while waiting:
        name = waiting.pop()
        if name in seen:
            continue
        seen.add(name)
        kind, parts = pages.get(name, EMPTY_LEAF)
        if kind == "node":
            waiting.extend([below for _, below in parts])
    return sorted(seen)


def missing(registry, root, pages):
    """The sorted list of the names of all pages of a tree that are not there."""
    return [name for name in names_told(root, pages) if name not in pages]
