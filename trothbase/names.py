"""Plain values, their names, and the seals of owners."""

from trothbase.errors import InvalidArgument

INTEGER_BOUND = 10 ** 60
MOST_TUPLES = 30


def is_plain(value):
    """Whether any value whatever is a plain value."""
    # A list instead of recursion: strangers may send tuples of any depth.
    waiting = [(value, 0)]
    while waiting:
        part, around = waiting.pop()
        if type(part) is tuple:
            if around == MOST_TUPLES:
                return False
            waiting.extend([(inner, around + 1) for inner in part])
        elif not _is_plain_atom(part):
            return False
    return True


def _is_plain_atom(value):
    # Exact kinds: an object of a class below int or str could answer a
    # comparison as it likes, and so be taken for what was never sealed.
    if is_integer(value):
        return -INTEGER_BOUND < value < INTEGER_BOUND
    return value is None or type(value) is bool or type(value) is str


def is_integer(value):
    """Whether a value is an integer; a boolean is none."""
    return type(value) is int


def is_at_least(value, least):
    """Whether a value is an integer from least on."""
    return is_integer(value) and value >= least


def depth(value):
    """How many tuples of a plain value are within one another, at the most."""
    if not isinstance(value, tuple):
        return 0
    return 1 + max([depth(part) for part in value], default=0)


def same(first, second):
    """Whether two plain values are equal and of equal kinds throughout."""
    waiting = [(first, second)]
    while waiting:
        one, other = waiting.pop()
        if not (type(one) is type(other)):
            return False
        if type(one) is tuple:
            if len(one) != len(other):
                return False
            waiting.extend(list(zip(one, other)))
        elif one != other:
            return False
    return True


def _text(value):
    # Python takes 1 and True for the same key of a dict, and a key may not
    # be nested as deep as a plain value; their texts always differ.
    return repr(value)


class Pen:
    """What an owner seals with; made by a Registry alone."""

    def __init__(self, owner, sealed):
        self.owner = owner
        self._sealed = sealed

    def seal(self, body):
        """Seals a plain value, and gives the sealed word."""
        self._sealed[_text((self.owner, body))] = True
        return ("sealed", self.owner, body)


class Registry:
    """Gives names to plain values and pens to owners, and knows all seals."""

    def __init__(self):
        self._names = {}
        self._sealed = {}
        self._pens = {}

    def name(self, value):
        """The name of a plain value, the next integer if it has none yet."""
        text = _text(value)
        if text not in self._names:
            self._names[text] = len(self._names) + 1
        return self._names[text]

    def pen(self, owner):
        """The Pen of an owner, which is given once."""
        if owner in self._pens:
            raise InvalidArgument(f"the pen of owner {owner} was given before")
        self._pens[owner] = True
        return Pen(owner, self._sealed)

    def is_sealed(self, owner, value):
        """Whether an owner has sealed a value; takes any plain values."""
        return _text((owner, value)) in self._sealed
