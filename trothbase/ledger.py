"""Foundings, commits and blocks, and what they make of the map."""

from trothbase.forms import is_statement
from trothbase.names import depth, is_at_least, is_plain, same
from trothbase.owners import are_owners, is_session
from trothbase.queries import Look, places_of
from trothbase.statements import say
from trothbase.trees import Tree, empty, order

MOST_ITEMS = 12
MOST_COMMITS = 8
MOST_ANSWER_TUPLES = 8


def founding_tree(registry, founding):
    """The Tree of the map of a founding."""
    _, owners, _ = founding
    return empty(registry).changed(tuple([((3, place), owner) for place, owner in enumerate(owners)]))


def founding_header(registry, founding):
    """The header of height 0."""
    _, owners, _ = founding
    return ("header", 0, 0, 0, founding_tree(registry, founding).root, owners)


def is_founding(value):
    """Whether any value whatever is a founding."""
    if not is_plain(value):
        return False
    match value:
        case ("founding", owners, founder):
            return are_owners(owners) and is_session(founder)
        case _:
            return False


def is_commit(registry, value):
    """Whether any value whatever is a good sealed word with the body of a commit."""
    if not is_plain(value):
        return False
    match value:
        case ("sealed", owner, ("transaction", session, number, items)):
            right = is_session(owner) and session == owner and is_at_least(number, 1)
            return right and _is_transaction(items) and registry.is_sealed(owner, value[2])
        case _:
            return False


def _is_transaction(value):
    if not isinstance(value, tuple) or not 1 <= len(value) <= MOST_ITEMS:
        return False
    return all([_is_item(item) for item in value])


def _is_item(value):
    match value:
        case (statement, told):
            return is_statement(statement) and depth(told) <= MOST_ANSWER_TUPLES
        case _:
            return False


def last_number(tree, session):
    """The number of the last commit of a session, or 0."""
    entry = tree.get((2, session))
    return 0 if entry is None else entry[0]


def run_items(tree, items, session, founder):
    """The pair of the list of the answers to the statements now and the changes of all."""
    changes = {}
    answers = [_answer_now(tree, changes, statement, session, founder) for statement, _ in items]
    return answers, changes


def _answer_now(tree, changes, statement, session, founder):
    """The answer to a statement behind changes, into which its own changes are put."""
    answer, own = say(Look(tree, changes), statement, session, founder)
    for key, value in own.items():
        changes[key] = value
    return answer


def run_commit(tree, word, founder):
    """The pair of the outcome of a commit that can run and the Tree behind it."""
    _, session, (_, _, number, items) = word
    outcome, changes = _run_told(tree, items, session, founder)
    changes[(2, session)] = (number, outcome)
    ascending = sorted(changes, key=order)
    return outcome, tree.changed(tuple([(key, changes[key]) for key in ascending]))


def _run_told(tree, items, session, founder):
    """The outcome of items, and the changes that count."""
    changes = {}
    for index, (statement, told) in enumerate(items):
        answer = _answer_now(tree, changes, statement, session, founder)
        if not same(answer, told):
            return ("refused", index, answer), {}
    return ("done",), changes


def can_run(registry, tree, word):
    """Whether any value whatever is a commit that can run on a tree."""
    if not is_commit(registry, word):
        return False
    _, session, (_, _, number, _) = word
    return number == last_number(tree, session) + 1


def _tree_behind(registry, tree, word, founder):
    """The Tree behind a word, or None if it is no commit that can run."""
    if not can_run(registry, tree, word):
        return None
    _, behind = run_commit(tree, word, founder)
    return behind


def run_block(registry, tree, block, founder):
    """The Tree behind a block, or None if it cannot run or is no block."""
    if not isinstance(block, tuple) or len(block) > MOST_COMMITS:
        return None
    if block == ():
        # Not the tree itself: what is visited in the one is not so in the other.
        return Tree(registry, tree.root, tree.pages())
    for word in block:
        tree = _tree_behind(registry, tree, word, founder)
        if tree is None:
            return None
    return tree


def made_header(registry, header, tree, block, founder):
    """The pair of the header of the next height and its Tree, or None if the block cannot run."""
    behind = run_block(registry, tree, block, founder)
    if behind is None:
        return None
    owners = tuple([owner for _, owner in places_of(behind)])
    made = ("header", header[1] + 1, registry.name(header), registry.name(block), behind.root, owners)
    return made, behind


def chosen(registry, tree, words, founder):
    """The block of the first words, at most 8, that can run behind one another."""
    block = []
    for word in words:
        behind = _tree_behind(registry, tree, word, founder)
        if behind is not None:
            block.append(word)
            tree = behind
        if len(block) == MOST_COMMITS:
            break
    return tuple(block)
