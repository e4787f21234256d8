import inspect
import unittest

from trothbase import (
    errors, forms, heads, house, ledger, names, queries, rounds, session, shelf, statements, trees,
)

FUNCTIONS = {
    names: {"is_plain": ["value"], "same": ["first", "second"]},
    trees: {
        "empty": ["registry"], "missing": ["registry", "root", "pages"], "is_page": ["value"], "order": ["key"],
    },
    forms: {"is_statement": ["value"]},
    statements: {"say": ["look", "statement", "session", "founder"]},
    ledger: {
        "founding_tree": ["registry", "founding"], "founding_header": ["registry", "founding"], "is_founding": ["value"],
        "is_commit": ["registry", "value"], "last_number": ["tree", "session"],
        "run_items": ["tree", "items", "session", "founder"], "run_commit": ["tree", "word", "founder"],
        "run_block": ["registry", "tree", "block", "founder"],
        "made_header": ["registry", "header", "tree", "block", "founder"],
        "chosen": ["registry", "tree", "words", "founder"],
    },
    heads: {
        "is_header": ["value"], "quorum": ["owners"], "is_certificate": ["registry", "value", "header", "owners"],
        "judged_heads": ["registry", "header", "heads"],
    },
    session: {
        "judged_pages": ["registry", "pages"],
        "judged_answers": ["registry", "root", "pages", "statements", "session", "founder"],
    },
}
CLASSES = {
    errors: {"Refused": {"__init__": ["problem"]}},
    names: {
        "Registry": {"__init__": [], "name": ["value"], "pen": ["owner"], "is_sealed": ["owner", "value"]},
        "Pen": {"seal": ["body"]},
    },
    trees: {
        "Tree": {
            "__init__": ["registry", "root", "pages"], "get": ["key"], "scan": ["low", "high"],
            "changed": ["changes"], "visited": [], "pages": [],
        },
    },
    queries: {"Look": {"__init__": ["tree", "changes"], "get": ["key"], "scan": ["low", "high"]}},
    rounds: {
        "Rounds": {
            "__init__": ["registry", "owner", "header", "tree", "founder"], "hear": ["word"], "take": ["number", "reason"],
            "due": ["pool"], "tick": ["pool"], "decided": [], "stand": [], "words": [],
        },
    },
    shelf: {
        "Shelf": {
            "__init__": [], "records": [], "append": ["record"], "sync": [], "pending": [], "fail_after": ["operations"],
            "power": ["kept"], "is_on": [], "losses": [],
        },
    },
    house: {
        "House": {
            "__init__": ["registry", "pen", "founding", "shelf"], "hear": ["sender", "word"], "tick": [], "pulse": [],
            "height": [], "head": [], "stand": [], "tree": [], "pool": [],
        },
    },
    session: {
        "Session": {
            "__init__": ["registry", "pen", "founding"], "height": [], "wanted": [], "begin": [], "say": ["statement"],
            "rollback": [], "commit": [], "asked": [], "hear": ["word"], "said": [],
        },
    },
}
ERRORS = [
    "TrothError", "Refused", "InvalidArgument", "PowerOff", "HouseClosed", "MissingPage", "NoTransaction",
    "TransactionOpen", "StillWaiting",
]


class InterfaceTest(unittest.TestCase):
    def test_functions(self):
        for module, functions in FUNCTIONS.items():
            for name, arguments in functions.items():
                own = getattr(module, name)
                self.assertEqual(own.__module__, module.__name__)
                self.assertEqual(list(inspect.signature(own).parameters), arguments, name)

    def test_classes(self):
        for module, classes in CLASSES.items():
            for name, methods in classes.items():
                own = getattr(module, name)
                self.assertEqual(own.__module__, module.__name__)
                for method, arguments in methods.items():
                    self.assertIn(method, vars(own))
                    self.assertEqual(list(inspect.signature(vars(own)[method]).parameters)[1:], arguments, method)

    def test_errors(self):
        for name in ERRORS:
            self.assertEqual(getattr(errors, name).__module__, "trothbase.errors")

    def test_nothing_stands_between(self):
        """Each function and class is defined in its file, and each method in the class itself."""
        for module in [*FUNCTIONS, *CLASSES]:
            for name in [*FUNCTIONS.get(module, ()), *CLASSES.get(module, ())]:
                self.assertTrue(inspect.getsourcefile(getattr(module, name)).endswith(module.__name__.split(".")[1] + ".py"))

    def test_attributes_are_set_on_each_object(self):
        registry = names.Registry()
        self.assertEqual(vars(registry.pen(11))["owner"], 11)
        tree = trees.empty(registry)
        self.assertEqual(vars(tree)["root"], tree.root)
        self.assertEqual(vars(trees.Tree(registry, 7, {}))["root"], 7)
        self.assertEqual(vars(errors.Refused(("a",)))["problem"], ("a",))


if __name__ == "__main__":
    unittest.main()
