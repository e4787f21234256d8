"""Headers, the certificates for them, and how heads are judged."""

from trothbase.names import is_at_least, is_integer, is_plain
from trothbase.owners import are_owners


def is_header(value):
    """Whether any value whatever has the form of a header."""
    if not is_plain(value):
        return False
    match value:
        case ("header", height, previous, block, root, owners):
            numbers = (height, previous, block, root)
            return all([is_at_least(number, 0) for number in numbers]) and are_owners(owners)
        case _:
            return False


def quorum(owners):
    """How many of the owners of all places are a quorum."""
    return 2 * ((len(owners) - 1) // 3) + 1


def is_certificate(registry, value, header, owners):
    """Whether any value whatever is a certificate for a header by its owners."""
    if not is_plain(value):
        return False
    match value:
        case ("certificate", number, signers):
            if not is_at_least(number, 0) or not _are_signers(signers, owners):
                return False
            body = ("precommit", header[1], number, registry.name(header))
            return all([registry.is_sealed(owner, body) for owner in signers])
        case _:
            return False


def _are_signers(value, owners):
    """Whether a plain value is an ascending tuple of at least a quorum of owners."""
    if not isinstance(value, tuple) or len(value) < quorum(owners):
        return False
    if not all([is_integer(owner) and owner in owners for owner in value]):
        return False
    return all([one < other for one, other in zip(value, value[1:])])


def judged_heads(registry, header, heads):
    """The list of the heads of a tuple that are taken behind a trusted header."""
    if not isinstance(heads, tuple) or not is_plain(heads):
        return []
    taken = []
    for head in _behind_elder(header, heads):
        if not _follows(registry, header, head):
            break
        taken.append(head)
        header = head[0]
    return taken


def _behind_elder(header, heads):
    """The heads from the first one on that is not passed over."""
    start = 0
    while start < len(heads) and _is_elder(header, heads[start]):
        start += 1
    return heads[start:]


def _is_elder(header, head):
    match head:
        case (own, _):
            return is_header(own) and own[1] <= header[1]
        case _:
            return False


def _follows(registry, header, head):
    """Whether a plain value is the head of the next height behind a header."""
    match head:
        case (own, certificate):
            if not is_header(own) or own[1] != header[1] + 1 or own[2] != registry.name(header):
                return False
            return is_certificate(registry, certificate, own, header[5])
        case _:
            return False
