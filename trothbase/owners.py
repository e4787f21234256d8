"""The integers that stand for owners."""

from trothbase.names import is_integer

LAST_OWNER = 999
FIRST_SESSION = 1000
LAST_SESSION = 9999
MANY_PLACES = (4, 7, 10)


def is_owner(value):
    """Whether a plain value is an owner of a place."""
    return is_integer(value) and 1 <= value <= LAST_OWNER


def is_session(value):
    """Whether a plain value is an owner of a session."""
    return is_integer(value) and FIRST_SESSION <= value <= LAST_SESSION


def are_owners(value):
    """Whether a plain value is the tuple of the owners of all places."""
    if not isinstance(value, tuple) or len(value) not in MANY_PLACES:
        return False
    return all([is_owner(owner) for owner in value]) and len(set(value)) == len(value)
