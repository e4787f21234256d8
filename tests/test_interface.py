import inspect
import unittest

from trothbase import errors, forms, names, trees

FUNCTIONS = {
    names: {"is_plain": ["value"], "same": ["first", "second"]},
    trees: {
        "empty": ["registry"], "missing": ["registry", "root", "pages"], "is_page": ["value"], "order": ["key"],
    },
    forms: {"is_statement": ["value"]},
}
CLASSES = {
    errors: {"Refused": {"__init__": ["problem"]}},
    names: {
        "Registry": {"__init__": [], "name": ["value"], "pen": ["owner"], "is_sealed": ["owner", "value"]},
        "Pen": {"seal": ["body"]},
    },
    trees: {
        "Tree": {
            "__init__": ["registry", "root", "pages"], "get": ["key"], "scan": ["low", "high"],
            "changed": ["changes"], "visited": [], "pages": [],
        },
    },
}
ERRORS = [
    "TrothError", "Refused", "InvalidArgument", "PowerOff", "HouseClosed", "MissingPage", "NoTransaction",
    "TransactionOpen", "StillWaiting",
]


class InterfaceTest(unittest.TestCase):
    def test_functions(self):
        for module, functions in FUNCTIONS.items():
            for name, arguments in functions.items():
                own = getattr(module, name)
                self.assertEqual(own.__module__, module.__name__)
                self.assertEqual(list(inspect.signature(own).parameters), arguments, name)

    def test_classes(self):
        for module, classes in CLASSES.items():
            for name, methods in classes.items():
                own = getattr(module, name)
                self.assertEqual(own.__module__, module.__name__)
                for method, arguments in methods.items():
                    self.assertIn(method, vars(own))
                    self.assertEqual(list(inspect.signature(vars(own)[method]).parameters)[1:], arguments, method)

    def test_errors(self):
        for name in ERRORS:
            self.assertEqual(getattr(errors, name).__module__, "trothbase.errors")

    def test_attributes_are_set_on_each_object(self):
        registry = names.Registry()
        self.assertEqual(vars(registry.pen(11))["owner"], 11)
        tree = trees.empty(registry)
        self.assertEqual(vars(tree)["root"], tree.root)
        self.assertEqual(vars(trees.Tree(registry, 7, {}))["root"], 7)
        self.assertEqual(vars(errors.Refused(("a",)))["problem"], ("a",))


if __name__ == "__main__":
    unittest.main()
