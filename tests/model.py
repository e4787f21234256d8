"""A second making of trees, from nested pages that have no names.

A nested page is ("leaf", entries) or ("node", pairs of a first key and the
nested page itself). It is written otherwise than the program, and slowly.
"""

from functools import cmp_to_key


def compared(one, other):
    """-1, 0 or 1 as the one key is before, the same as, or behind the other."""
    for first, second in zip(one, other):
        if isinstance(first, str) != isinstance(second, str):
            return 1 if isinstance(first, str) else -1
        if first != second:
            return -1 if first < second else 1
    return (len(one) > len(other)) - (len(one) < len(other))


def is_before(one, other):
    return compared(one, other) < 0


def sorted_keys(keys):
    return sorted(keys, key=cmp_to_key(compared))


def pieces(parts):
    if not parts:
        return []
    many = 1
    while many * 6 < len(parts):
        many += 1
    short, longer = divmod(len(parts), many)
    lengths = [short + 1] * longer + [short] * (many - longer)
    found = []
    for length in lengths:
        found.append(tuple(parts[:length]))
        parts = parts[length:]
    return found


def first_key(page):
    return page[1][0][0]


def pages_of(kind, parts):
    return [(kind, piece) for piece in pieces(list(parts))]


def replaced(page, changes, visited):
    visited.append(page)
    kind, parts = page
    if kind == "leaf":
        entries = dict(parts)
        entries.update(changes)
        kept = [key for key in sorted_keys(entries) if entries[key] is not None]
        return pages_of("leaf", [(key, entries[key]) for key in kept])
    children = []
    for at, (first, child) in enumerate(parts):
        share = [
            (key, value) for key, value in changes
            if (at == 0 or not is_before(key, first))
            and (at + 1 == len(parts) or is_before(key, parts[at + 1][0]))
        ]
        if share:
            children += [(first_key(new), new) for new in replaced(child, share, visited)]
        else:
            children.append((first, child))
    return pages_of("node", children)


def changed(page, changes):
    """The pair of the nested page after changes and the list of those visited."""
    visited = []
    found = replaced(page, list(changes), visited)
    while len(found) > 1:
        found = pages_of("node", [(first_key(new), new) for new in found])
    root = found[0] if found else ("leaf", ())
    while root[0] == "node" and len(root[1]) == 1:
        root = root[1][0][1]
    return root, visited


def visited_between(page, low, high):
    """The nested pages that can have keys from low on before high (or low itself)."""
    found = [page]
    kind, parts = page
    if kind == "node":
        for at, (first, child) in enumerate(parts):
            behind = at > 0 and (is_before(low, first) if high is None else not is_before(first, high))
            ahead = at + 1 < len(parts) and not is_before(low, parts[at + 1][0])
            if not behind and not ahead:
                found += visited_between(child, low, high)
    return found


def entries_of(page):
    kind, parts = page
    if kind == "leaf":
        return list(parts)
    return [entry for _, child in parts for entry in entries_of(child)]


def named(registry, page, pages):
    """The name of a nested page, which is put into pages with all beneath it."""
    kind, parts = page
    if kind == "node":
        parts = tuple((first, named(registry, child, pages)) for first, child in parts)
    name = registry.name((kind, parts))
    pages[name] = (kind, parts)
    return name


def names_of(registry, nested_pages):
    return sorted({named(registry, page, {}) for page in nested_pages})


def beneath(pages, root):
    """The dict of the pages of the tree of a root."""
    found = {root: pages[root]}
    kind, parts = pages[root]
    if kind == "node":
        for _, name in parts:
            found.update(beneath(pages, name))
    return found
