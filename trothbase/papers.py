"""What houses tell of the map to sessions: the pages that are visited for an answer."""

from trothbase.forms import is_statement
from trothbase.ledger import MOST_ITEMS, last_number, run_items


def are_paper_statements(value):
    """Whether a plain value is a tuple of items, and of a statement as the last."""
    if not isinstance(value, tuple) or not 1 <= len(value) <= MOST_ITEMS:
        return False
    return is_statement(value[-1]) and all([_is_said(item) for item in value[:-1]])


def _is_said(value):
    return isinstance(value, tuple) and len(value) == 2 and is_statement(value[0])


def answers_now(tree, statements, session, founder):
    """The list of the answers on a tree to the items and the last statement of a paper."""
    items = (*statements[:-1], (statements[-1], None))
    answers, _ = run_items(tree, items, session, founder)
    return answers


def answer_pages(tree, statements, session, founder):
    """The pages that are visited for the answers on a tree of which none is visited yet."""
    answers_now(tree, statements, session, founder)
    return _visited(tree)


def outcome_pages(tree, session):
    """The pages that are visited for the last outcome of a session, likewise."""
    last_number(tree, session)
    return _visited(tree)


def _visited(tree):
    pages = tree.pages()
    return tuple([pages[name] for name in tree.visited()])
