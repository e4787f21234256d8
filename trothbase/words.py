"""The words of a height: their forms, and when they are good."""

from trothbase.heads import is_header
from trothbase.names import depth, is_at_least, is_integer

MOST_BLOCK_TUPLES = 20
PROPOSAL = "proposal"
PREVOTE = "prevote"
PRECOMMIT = "precommit"


def told_height(registry, word):
    """The height that a plain value tells, if it is a good sealed word of some agreement, or else None."""
    match word:
        case ("sealed", owner, body):
            if not isinstance(body, tuple) or len(body) < 2 or not is_integer(body[1]):
                return None
            if body[0] in (PROPOSAL, PREVOTE, PRECOMMIT) and registry.is_sealed(owner, body):
                return body[1]
            return None
        case _:
            return None


def proposer(elder, number):
    """The owner who proposes in a round of the height behind an elder header."""
    owners = elder[5]
    return owners[(elder[1] + 1 + number) % len(owners)]


def is_known_block(registry, elder, header, block):
    """Whether plain values are a header of the height behind an elder one, by its form, and its block."""
    if not is_header(header) or header[1] != elder[1] + 1:
        return False
    if not isinstance(block, tuple) or depth(block) > MOST_BLOCK_TUPLES:
        return False
    return registry.name(block) == header[3]


def mark(registry, elder, word):
    """What tells a good word of the height behind an elder header from all others; None if it is no such word.

    It is the tuple of the owner, the kind of the word, the round, the name, and what a proposal tells as before.
    """
    if not _is_of_height(registry, elder, word):
        return None
    _, owner, body = word
    match body:
        case ("proposal", _, number, header, block, before):
            if owner != proposer(elder, number) or not is_at_least(before, -1) or before >= number:
                return None
            if not is_known_block(registry, elder, header, block):
                return None
            return owner, PROPOSAL, number, registry.name(header), before
        case (kind, _, number, name):
            if kind not in (PREVOTE, PRECOMMIT) or not _is_vote(name):
                return None
            return owner, kind, number, name, None
        case _:
            return None


def _is_of_height(registry, elder, word):
    """Whether a plain value is a good word by an owner of the height behind a header, with a round."""
    if told_height(registry, word) != elder[1] + 1:
        return False
    _, owner, body = word
    # A boolean is equal to an integer, and so might be found among the owners.
    return is_integer(owner) and owner in elder[5] and len(body) > 2 and is_at_least(body[2], 0)


def _is_vote(name):
    return name is None or is_at_least(name, 1)
