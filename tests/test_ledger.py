import unittest

import model
from maps import tree_of
from test_heads import ANYTHING, NO_OWNERS, other_lengths, with_part
from test_names import STRANGE, nested
from towns import CREATE, CREATED, FOUNDER, OWNERS, Town
from trothbase.errors import MissingPage
from trothbase.heads import is_header
from trothbase.ledger import (
    chosen, founding_header, founding_tree, is_commit, is_founding, last_number, made_header, run_block, run_commit,
    run_items,
)
from trothbase.names import same
from trothbase.trees import Tree, empty

ALL = ("select", ("rows", (("column", "t", 0), ("column", "t", 1))), (("t", "t"),), ())
MANY = ("select", ("count",), (("t", "t"),), ())
TRUE = ("answer", True)


def insert(number, text="x"):
    return ("insert", "t", (number, text))


def entries_of(tree):
    return dict(tree.scan((0,), (4,)))


class FoundingTest(unittest.TestCase):
    def check(self, right, *values):
        for value in values:
            self.assertIs(is_founding(value), right, value)

    def test_foundings(self):
        for owners in OWNERS.values():
            self.check(True, *[("founding", owners, founder) for founder in (1000, 1001, 9999)])

    def test_other_forms(self):
        right = ("founding", OWNERS[4], FOUNDER)
        self.check(False, *other_lengths(right), *ANYTHING, *STRANGE)
        self.check(False, *[with_part(right, 1, wrong) for wrong in NO_OWNERS])
        for wrong in [999, 10000, 0, -1000, 11, True, None, "1000", (), (1000,)]:
            self.check(False, with_part(right, 2, wrong))
        for word in ["", "Founding", "foundings", None, ("founding",)]:
            self.check(False, with_part(right, 0, word))
        for at in range(3):
            self.check(False, *[with_part(right, at, strange) for strange in STRANGE])
        self.check(False, ("founding", list(OWNERS[4]), FOUNDER))

    def test_the_map_of_a_founding(self):
        for many, owners in OWNERS.items():
            town = Town(many)
            tree = founding_tree(town.registry, town.founding)
            self.assertEqual(tree.visited(), [])
            entries = {(3, place): owner for place, owner in enumerate(owners)}
            self.assertEqual(entries_of(tree), entries)
            page, _ = model.changed(("leaf", ()), entries.items())
            pages = {}
            self.assertEqual(tree.root, model.named(town.registry, page, pages))
            self.assertEqual({name: tree.pages()[name] for name in pages}, pages)

    def test_seven_places_are_cut(self):
        town = Town(7)
        tree = town.tree()
        entries = tuple(((3, place), owner) for place, owner in enumerate(OWNERS[7]))
        names = [town.registry.name(("leaf", part)) for part in (entries[:4], entries[4:])]
        self.assertEqual(tree.pages()[tree.root], ("node", (((3, 0), names[0]), ((3, 4), names[1]))))

    def test_the_header_of_height_0(self):
        for many, owners in OWNERS.items():
            town = Town(many)
            header = founding_header(town.registry, town.founding)
            self.assertTrue(same(header, ("header", 0, 0, 0, town.tree().root, owners)))
            self.assertTrue(is_header(header))


class CommitFormTest(unittest.TestCase):
    def setUp(self):
        self.town = Town()

    def is_commit(self, value):
        return is_commit(self.town.registry, value)

    def check(self, right, *values):
        for value in values:
            self.assertIs(self.is_commit(value), right, value)

    def check_sealed(self, right, session, *bodies):
        """What these bodies are once they are sealed by the session."""
        for body in bodies:
            self.check(False, ("sealed", session, body))
            self.check(right, self.town.seal(session, body))

    def test_commits(self):
        for session in (1000, 1001, 5000, 9999):
            for number in (1, 2, 7, 10 ** 59):
                self.check_sealed(True, session, ("transaction", session, number, (CREATED,)))

    def test_every_statement(self):
        for statement in [
            CREATE, ("drop", "t"), insert(1), ("delete", "t", ()), ALL, MANY, ("replace", 0, 15),
            ("update", "t", ((1, ("value", "x")),), (("=", ("value", 1), ("value", 2)),)),
        ]:
            self.check(True, self.town.commit(2000, 1, (statement, TRUE)))

    def test_1_to_12_items(self):
        for many in range(1, 13):
            self.check_sealed(True, 2000, ("transaction", 2000, 1, (CREATED,) * many))
        for items in [(), (CREATED,) * 13, (CREATED,) * 100, None, CREATED, [CREATED], "ab", 1, True, ((),)]:
            self.check_sealed(False, 2000, ("transaction", 2000, 1, items))

    def test_items_in_every_place(self):
        for many in (1, 2, 12):
            for at in range(many):
                for wrong in [
                    (), (CREATE,), (*CREATED, 0), CREATE, None, "ab", 1, (TRUE, CREATE), (None, TRUE), (("drop", "T"), TRUE),
                    (("insert", "t", (True,)), TRUE), (("drop", "t", ()), TRUE), (insert(10 ** 30), TRUE),
                    (("replace", 10, 15), TRUE), (CREATE, nested(9)), list(CREATED),
                ]:
                    items = with_part((CREATED,) * many, at, wrong)
                    self.check_sealed(False, 2000, ("transaction", 2000, 1, items))

    def test_answers_are_any_plain_values(self):
        for answer in [
            None, True, False, 0, 10 ** 60 - 1, "", "\n\x25\xe9", (), TRUE, ("problem", ("founder",)), ("x", 7, None),
            nested(8), nested(8, "a"), (0, nested(7)), (0, nested(7, "a")), (nested(7), 1, nested(3)), ((),) * 1000,
        ]:
            self.check_sealed(True, 2000, ("transaction", 2000, 1, ((MANY, answer),)))
        for answer in [nested(9), nested(9, "a"), (1, nested(8)), nested(20), (nested(1), nested(8))]:
            self.check_sealed(False, 2000, ("transaction", 2000, 1, ((MANY, answer),)))
        for answer in [*STRANGE, 10 ** 60, nested(40), (1, 1.5)]:
            word = ("sealed", 2000, ("transaction", 2000, 1, ((MANY, answer),)))
            self.check(False, word)

    def test_numbers(self):
        for number in [0, -1, True, False, None, "1", (), (1,), 10 ** 60]:
            self.check_sealed(False, 2000, ("transaction", 2000, number, (CREATED,)))

    def test_sessions(self):
        for session in [999, 10000, 0, 11, -2000]:
            self.check_sealed(False, session, ("transaction", session, 1, (CREATED,)))
        for session in [2001, 1000, 11, True, None, "2000", (2000,)]:
            self.check_sealed(False, 2000, ("transaction", session, 1, (CREATED,)))

    def test_seals(self):
        body = ("transaction", 2000, 1, (CREATED,))
        word = ("sealed", 2000, body)
        self.town.seal(2001, body)
        self.town.seal(2000, ("transaction", 2000, 2, (CREATED,)))
        self.town.seal(2000, ("transaction", 2000, 1, (CREATED, CREATED)))
        self.town.seal(2000, ("transaction", 2000, 1, ((CREATE, ("answer", 1)),)))
        self.check(False, word, ("sealed", 2001, body))
        self.town.seal(2000, body)
        self.check(True, word)
        self.check(False, ("sealed", 2001, body), ("sealed", 2000, ("transaction", 2000, True, (CREATED,))))
        for wrong in [(*word, 0), word[1:], word[:2], body, ("Sealed", 2000, body), (None, 2000, body), [*word]]:
            self.check(False, wrong)
        for owner in [True, None, "2000", (2000,), 2000 + 10 ** 60]:
            self.check(False, ("sealed", owner, body))

    def test_other_forms(self):
        body = ("transaction", 2000, 1, (CREATED,))
        bodies = [*other_lengths(body)[:-1], with_part(body, 0, "Transaction"), with_part(body, 0, None), (), None, 1, "a"]
        self.check_sealed(False, 2000, *bodies)
        self.check(False, *ANYTHING, *STRANGE)
        for strange in STRANGE:
            self.check(False, ("sealed", 2000, strange), ("sealed", strange, body), (strange, 2000, body))
            for at in range(4):
                self.check(False, ("sealed", 2000, with_part(body, at, strange)))
            self.check(False, ("sealed", 2000, with_part(body, 3, ((strange, TRUE),))))


class RunTest(unittest.TestCase):
    def setUp(self):
        self.town = Town()
        self.tree = self.town.tree()

    def block_behind(self, tree, block):
        return run_block(self.town.registry, tree, block, FOUNDER)

    def with_table(self, *numbers):
        """The tree with the table t and rows of these numbers."""
        items = [(CREATE, TRUE)] + [(insert(number), TRUE) for number in numbers]
        return run_commit(self.tree, self.town.commit(3000, 1, *items), FOUNDER)[1]


class LastNumberTest(RunTest):
    def test_last_numbers(self):
        self.assertEqual(last_number(self.tree, 2000), 0)
        _, tree = run_commit(self.tree, self.town.commit(2000, 1, CREATED), FOUNDER)
        self.assertEqual(last_number(tree, 2000), 1)
        self.assertEqual(last_number(tree, 2001), 0)
        _, tree = run_commit(tree, self.town.commit(2000, 2, CREATED), FOUNDER)
        self.assertEqual(last_number(tree, 2000), 2)
        self.assertEqual(last_number(self.tree, 2000), 0)
        held = tree_of(self.town.registry, {(2, 1000): (10 ** 59, ("refused", 0, TRUE)), (2, 9999): (3, ("done",))})
        self.assertEqual([last_number(held, session) for session in (1000, 1001, 9999)], [10 ** 59, 0, 3])

    def test_missing_pages(self):
        with self.assertRaises(MissingPage):
            last_number(Tree(self.town.registry, self.tree.root, {}), 2000)


class RunItemsTest(RunTest):
    def run_items(self, tree, *statements, told=TRUE, session=2000):
        return run_items(tree, tuple((statement, told) for statement in statements), session, FOUNDER)

    def test_statements_see_what_those_before_them_changed(self):
        answers, changes = self.run_items(self.tree, CREATE, insert(1, "a"), insert(1, "b"), ALL, insert(2), MANY)
        self.assertEqual(answers, [
            TRUE, TRUE, ("problem", ("key", "t")), ("answer", ((1, "a"),)), TRUE, ("answer", 2),
        ])
        self.assertEqual(changes, {
            (0, "t"): (("integer", "text"), 1), (1, "t", 1): ("a",), (1, "t", 2): ("x",),
        })

    def test_what_comes_and_goes(self):
        answers, changes = self.run_items(self.with_table(1), insert(2), ("delete", "t", ()), MANY, insert(1, "new"))
        self.assertEqual(answers, [TRUE, ("answer", 2), ("answer", 0), TRUE])
        self.assertEqual(changes, {(1, "t", 1): ("new",), (1, "t", 2): None})

    def test_answers_that_are_not_as_told_do_not_end_it(self):
        for told in [TRUE, None, ("problem", ("exists", "t")), ("answer", 1)]:
            answers, changes = self.run_items(self.tree, CREATE, CREATE, insert(1), MANY, told=told)
            self.assertEqual(answers, [TRUE, ("problem", ("exists", "t")), TRUE, ("answer", 1)])
            self.assertEqual(changes, {(0, "t"): (("integer", "text"), 1), (1, "t", 1): ("x",)})

    def test_problems_alone(self):
        answers, changes = self.run_items(self.tree, MANY, ("drop", "t"), insert(1))
        self.assertEqual(answers, [("problem", ("no table", "t"))] * 3)
        self.assertEqual(changes, {})

    def test_no_items(self):
        self.assertEqual(self.run_items(self.tree), ([], {}))

    def test_the_session_and_the_founder(self):
        replace = ("replace", 0, 15)
        self.assertEqual(self.run_items(self.tree, replace), ([("problem", ("founder",))], {}))
        self.assertEqual(self.run_items(self.tree, replace, session=FOUNDER), ([TRUE], {(3, 0): 15}))
        self.assertEqual(run_items(self.tree, ((replace, None),), 2000, 2000), ([TRUE], {(3, 0): 15}))
        answers, changes = self.run_items(self.tree, replace, ("replace", 1, 11), ("replace", 2, 15), session=FOUNDER)
        self.assertEqual(answers, [TRUE, TRUE, ("problem", ("owner", 15))])
        self.assertEqual(changes, {(3, 0): 15, (3, 1): 11})

    def test_what_is_returned_may_be_changed(self):
        tree = self.with_table(1)
        root, pages = tree.root, tree.pages()
        items = ((insert(2), TRUE), (MANY, TRUE))
        answers, changes = run_items(tree, items, 2000, FOUNDER)
        changes[(1, "t", 3)] = ("y",)
        answers.clear()
        again = run_items(tree, items, 2000, FOUNDER)
        self.assertEqual(again, ([TRUE, ("answer", 2)], {(1, "t", 2): ("x",)}))
        self.assertEqual((tree.root, tree.pages()), (root, pages))

    def test_missing_pages(self):
        tree = self.with_table(1)
        bare = Tree(self.town.registry, tree.root, {})
        with self.assertRaises(MissingPage):
            self.run_items(bare, MANY)
        self.assertEqual(self.run_items(bare, ("replace", 0, 15)), ([("problem", ("founder",))], {}))


class RunCommitTest(RunTest):
    def check(self, tree, word, outcome, entries):
        """Runs a commit; the map behind it has these entries besides those of places."""
        found, behind = run_commit(tree, word, FOUNDER)
        self.assertTrue(same(found, outcome), found)
        places = {(3, place): owner for place, owner in enumerate(OWNERS[4])}
        whole = {**places, **entries}
        self.assertEqual(entries_of(behind), whole)
        self.assertTrue(same(behind.get((2, word[1])), (word[2][2], outcome)))
        return behind

    def test_done(self):
        word = self.town.commit(2000, 1, CREATED, (insert(1), TRUE), (MANY, ("answer", 1)))
        self.check(self.tree, word, ("done",), {
            (0, "t"): (("integer", "text"), 1), (1, "t", 1): ("x",), (2, 2000): (1, ("done",)),
        })

    def test_refused(self):
        items = [CREATED, (insert(1), TRUE), (MANY, ("answer", 1)), (insert(1), ("problem", ("key", "t")))]
        answers = [answer for _, answer in items]
        for index in range(4):
            for told in [None, (), ("answer", 2), ("problem", ("no table", "t")), (*answers[index], 0), answers[index][1]]:
                spoilt = with_part(tuple(items), index, (items[index][0], told))
                word = self.town.commit(2000, 1, *spoilt)
                outcome = ("refused", index, answers[index])
                self.check(self.tree, word, outcome, {(2, 2000): (1, outcome)})

    def test_the_first_answer_that_differs(self):
        items = [(MANY, ("answer", 0)), CREATED, (CREATE, TRUE), (MANY, ("answer", 1)), (insert(1), None)]
        for start, index, answer in [
            (0, 0, ("problem", ("no table", "t"))), (1, 1, ("problem", ("exists", "t"))), (3, 0, ("answer", 0)),
        ]:
            tree = self.with_table() if start == 3 else self.tree
            word = self.town.commit(2000, 1, *items[start:])
            outcome, behind = run_commit(tree, word, FOUNDER)
            self.assertTrue(same(outcome, ("refused", index, answer)), outcome)
            entries = entries_of(tree)
            self.assertEqual(entries_of(behind), {**entries, (2, 2000): (1, outcome)})

    def test_answers_that_differ_in_a_kind_alone(self):
        for statement, now, told in [
            (insert(2), TRUE, ("answer", 1)), (MANY, ("answer", 1), TRUE), (("delete", "t", ()), ("answer", 1), TRUE),
            (ALL, ("answer", ((1, "x"),)), ("answer", ((True, "x"),))),
            (("select", ("sum", ("value", 0)), (("t", "t"),), ()), ("answer", 0), ("answer", False)),
        ]:
            tree = self.with_table(1)
            outcome, behind = run_commit(tree, self.town.commit(2000, 1, (statement, told)), FOUNDER)
            self.assertTrue(same(outcome, ("refused", 0, now)), outcome)
            self.assertEqual(entries_of(behind), {**entries_of(tree), (2, 2000): (1, ("refused", 0, now))})
            outcome, _ = run_commit(tree, self.town.commit(2000, 1, (statement, now)), FOUNDER)
            self.assertEqual(outcome, ("done",))

    def test_the_entry_of_the_session_is_replaced(self):
        _, tree = run_commit(self.tree, self.town.commit(2000, 1, CREATED), FOUNDER)
        _, tree = run_commit(tree, self.town.commit(2001, 1, CREATED), FOUNDER)
        refused = ("refused", 0, ("problem", ("exists", "t")))
        self.assertEqual(tree.get((2, 2001)), (1, refused))
        tree = self.check(tree, self.town.commit(2000, 2, CREATED), refused, {
            (0, "t"): (("integer", "text"), 1), (2, 2000): (2, refused), (2, 2001): (1, refused),
        })
        self.check(tree, self.town.commit(2000, 3, (MANY, ("answer", 0))), ("done",), {
            (0, "t"): (("integer", "text"), 1), (2, 2000): (3, ("done",)), (2, 2001): (1, refused),
        })

    def test_all_changes_at_once(self):
        # Put in one after another, the entries would be cut otherwise.
        items = [CREATED] + [(insert(number), TRUE) for number in (5, 3, 9, -1, 7, 1, 8, 2, 6, 4, 0)]
        outcome, behind = run_commit(self.tree, self.town.commit(2000, 1, *items), FOUNDER)
        entries = entries_of(behind)
        changes = tuple((key, entries[key]) for key in model.sorted_keys(entries) if key[0] != 3)
        self.assertEqual(len(changes), 13)
        self.assertEqual(behind.root, self.tree.changed(changes).root)
        later = self.tree.changed(changes[:-1]).changed(changes[-1:])
        self.assertNotEqual(behind.root, later.root)
        one_by_one = self.tree
        for change in changes:
            one_by_one = one_by_one.changed((change,))
        self.assertNotEqual(behind.root, one_by_one.root)

    def test_owners(self):
        word = self.town.commit(FOUNDER, 1, (("replace", 2, 15), TRUE))
        outcome, tree = run_commit(self.tree, word, FOUNDER)
        self.assertEqual((outcome, tree.get((3, 2))), (("done",), 15))
        word = self.town.commit(2000, 1, (("replace", 2, 15), TRUE))
        outcome, tree = run_commit(self.tree, word, FOUNDER)
        self.assertEqual(outcome, ("refused", 0, ("problem", ("founder",))))
        self.assertEqual(tree.get((3, 2)), 13)

    def test_the_tree_before_stays(self):
        tree = self.with_table(1, 2)
        root, pages = tree.root, tree.pages()
        word = self.town.commit(2000, 1, (("drop", "t"), ("answer", 2)))
        outcome, behind = run_commit(tree, word, FOUNDER)
        self.assertEqual(outcome, ("done",))
        self.assertIsNone(behind.get((0, "t")))
        self.assertEqual((tree.root, tree.pages()), (root, pages))
        self.assertEqual(entries_of(Tree(self.town.registry, root, pages)), entries_of(tree))

    def test_missing_pages(self):
        tree = self.with_table(*range(11))
        word = self.town.commit(2000, 1, (MANY, ("answer", 11)))
        whole = Tree(self.town.registry, tree.root, tree.pages())
        outcome, behind = run_commit(whole, word, FOUNDER)
        self.assertEqual(outcome, ("done",))
        enough = {name: tree.pages()[name] for name in whole.visited()}
        again = run_commit(Tree(self.town.registry, tree.root, enough), word, FOUNDER)
        self.assertEqual((again[0], again[1].root), (outcome, behind.root))
        for name in enough:
            pages = {other: page for other, page in enough.items() if other != name}
            with self.assertRaises(MissingPage):
                run_commit(Tree(self.town.registry, tree.root, pages), word, FOUNDER)

    def test_what_is_behind_a_refusal_needs_no_pages(self):
        tree = self.with_table(*range(11))
        word = self.town.commit(2000, 1, (("replace", 0, 15), None), (MANY, None))
        touched = Tree(self.town.registry, tree.root, tree.pages())
        outcome = ("refused", 0, ("problem", ("founder",)))
        after = touched.changed((((2, 2000), (1, outcome)),))
        pages = {name: tree.pages()[name] for name in touched.visited()}
        self.assertLess(len(pages), len(model.beneath(tree.pages(), tree.root)))
        found, behind = run_commit(Tree(self.town.registry, tree.root, pages), word, FOUNDER)
        self.assertEqual((found, behind.root), (outcome, after.root))


class RunBlockTest(RunTest):
    def block(self, tree, many, *statements):
        return tuple(self.town.told(tree, 2000 + at, 1, *statements) for at in range(many))

    def test_the_empty_block(self):
        for tree in [self.tree, self.with_table(*range(11))]:
            behind = self.block_behind(tree, ())
            self.assertEqual(behind.root, tree.root)
            self.assertEqual(entries_of(behind), entries_of(tree))

    def test_the_tree_behind_the_empty_block_is_another_one(self):
        behind = self.block_behind(self.tree, ())
        behind.get((3, 0))
        self.assertEqual(self.tree.visited(), [])

    def test_up_to_8_commits(self):
        tree = self.with_table(1)
        for many in range(1, 9):
            block = self.block(tree, many, MANY)
            behind = self.block_behind(tree, block)
            entries = entries_of(tree)
            entries.update({(2, 2000 + at): (1, ("done",)) for at in range(many)})
            self.assertEqual(entries_of(behind), entries)
            one_by_one = tree
            for word in block:
                _, one_by_one = run_commit(one_by_one, word, FOUNDER)
            self.assertEqual(behind.root, one_by_one.root)

    def test_more_than_8_commits(self):
        tree = self.with_table(1)
        for many in (9, 10, 20):
            self.assertIsNone(self.block_behind(tree, self.block(tree, many, MANY)))

    def test_commits_that_are_refused_can_run(self):
        block = (self.town.commit(2000, 1, CREATED), self.town.commit(2001, 1, CREATED))
        behind = self.block_behind(self.tree, block)
        self.assertEqual(behind.get((2, 2000)), (1, ("done",)))
        self.assertEqual(behind.get((2, 2001)), (1, ("refused", 0, ("problem", ("exists", "t")))))
        behind = self.block_behind(self.tree, block[::-1])
        self.assertEqual(behind.get((2, 2001)), (1, ("done",)))
        self.assertEqual(behind.get((2, 2000)), (1, ("refused", 0, ("problem", ("exists", "t")))))

    def test_commits_that_can_run_only_behind_another_one(self):
        first, second, third = [self.town.commit(2000, number, CREATED) for number in (1, 2, 3)]
        other = self.town.commit(2001, 1, CREATED)
        for block, last in [
            ((first,), 1), ((first, second), 2), ((first, second, third), 3), ((first, other, second), 2),
            ((other, first), 1),
        ]:
            self.assertEqual(last_number(self.block_behind(self.tree, block), 2000), last)
        for block in [
            (second,), (second, first), (first, third), (first, first), (first, second, second), (first, other, other),
            (first, third, second), (other, first, second, first),
        ]:
            self.assertIsNone(self.block_behind(self.tree, block))
        behind = self.block_behind(self.tree, (first,))
        self.assertIsNone(self.block_behind(behind, (first,)))
        self.assertIsNone(self.block_behind(behind, (third,)))
        self.assertEqual(last_number(self.block_behind(behind, (second, third)), 2000), 3)

    def test_what_is_no_commit(self):
        good = self.town.commit(2000, 1, CREATED)
        unsealed = ("sealed", 2001, ("transaction", 2001, 1, (CREATED,)))
        for wrong in [
            unsealed, ("sealed", 2001, good[2]), good[2], (), None, 1, "a", self.town.seal(2001, ("transaction", 2001, 1, ())),
            self.town.commit(999, 1, CREATED), self.town.seal(2001, ("transaction", 2000, 1, (CREATED,))),
            self.town.commit(2001, True, CREATED), self.town.commit(2001, 0, CREATED), self.town.commit(2001, 2, CREATED),
        ]:
            for block in [(wrong,), (good, wrong), (wrong, good)]:
                self.assertIsNone(self.block_behind(self.tree, block), wrong)
        self.assertIsNotNone(self.block_behind(self.tree, (good,)))
        self.town.commit(2001, 1, CREATED)
        self.assertIsNotNone(self.block_behind(self.tree, (unsealed,)))

    def test_what_is_no_block(self):
        good = self.town.commit(2000, 1, CREATED)
        for value in [None, True, False, 0, 1, "", "abc", good, good[2], nested(30), (1,), (None,), ((),), 10 ** 59]:
            self.assertIsNone(self.block_behind(self.tree, value), value)

    def test_the_tree_before_stays(self):
        root, pages = self.tree.root, self.tree.pages()
        for block in [(), (self.town.commit(2000, 1, CREATED),)]:
            self.block_behind(self.tree, block)
            self.assertEqual((self.tree.root, self.tree.pages()), (root, pages))

    def test_missing_pages(self):
        tree = self.with_table(*range(11))
        bare = Tree(self.town.registry, tree.root, {})
        block = self.block(tree, 2, MANY)
        with self.assertRaises(MissingPage):
            self.block_behind(bare, block)
        with self.assertRaises(MissingPage):
            made_header(self.town.registry, self.town.header(), bare, (), FOUNDER)
        with self.assertRaises(MissingPage):
            chosen(self.town.registry, bare, list(block), FOUNDER)
        self.assertIsNone(self.block_behind(bare, None))


class MadeHeaderTest(RunTest):
    def made(self, header, tree, block):
        return made_header(self.town.registry, header, tree, block, FOUNDER)

    def check(self, header, tree, block, owners):
        made, behind = self.made(header, tree, block)
        name = self.town.registry.name
        root = self.block_behind(tree, block).root
        told = ("header", header[1] + 1, name(header), name(block), root, owners)
        self.assertTrue(same(made, told), made)
        self.assertTrue(is_header(made))
        self.assertEqual(behind.root, root)
        return made, behind

    def test_the_empty_block(self):
        header, tree = self.town.header(), self.tree
        for _ in range(3):
            header, tree = self.check(header, tree, (), OWNERS[4])
        self.assertEqual((header[1], header[4]), (3, self.tree.root))

    def test_headers_behind_blocks(self):
        header, tree = self.town.header(), self.tree
        for at in range(1, 6):
            commits = [self.town.commit(2000, at, CREATED), self.town.commit(2001, at, (insert(at), TRUE))]
            header, tree = self.check(header, tree, tuple(commits), OWNERS[4])
        self.assertEqual(header[1], 5)
        self.assertEqual(tree.get((1, "t", 5)), ("x",))

    def test_owners_behind_the_block(self):
        replace = self.town.commit(FOUNDER, 1, (("replace", 1, 15), TRUE), (("replace", 3, 12), TRUE))
        header, tree = self.check(self.town.header(), self.tree, (replace,), (11, 15, 13, 12))
        self.check(header, tree, (), (11, 15, 13, 12))
        again = self.town.commit(FOUNDER, 2, (("replace", 0, 14), TRUE))
        self.check(header, tree, (again,), (14, 15, 13, 12))

    def test_seven_and_ten_places(self):
        for many in (7, 10):
            town = Town(many)
            block = (town.commit(FOUNDER, 1, (("replace", many - 1, 500), TRUE)),)
            made, _ = made_header(town.registry, town.header(), town.tree(), block, FOUNDER)
            self.assertEqual(made[5], (*OWNERS[many][:-1], 500))

    def test_blocks_that_cannot_run(self):
        header = self.town.header()
        good = self.town.commit(2000, 1, CREATED)
        commits = tuple(self.town.commit(3000 + at, 1, CREATED) for at in range(9))
        for block in [None, 0, True, "", "a", (None,), good, (good, good), (self.town.commit(2001, 2, CREATED),), commits]:
            self.assertIsNone(self.made(header, self.tree, block), block)
        self.assertIsNotNone(self.made(header, self.tree, commits[:8]))

    def test_any_header_may_be_before(self):
        header = ("header", 41, 5, 6, 7, (1, 2, 3, 4))
        self.check(header, self.with_table(1, 2), (), OWNERS[4])


class ChosenTest(RunTest):
    def chosen(self, tree, words):
        block = chosen(self.town.registry, tree, words, FOUNDER)
        self.assertIs(type(block), tuple)
        self.assertIsNotNone(self.block_behind(tree, block))
        return list(block)

    def test_none(self):
        self.assertEqual(self.chosen(self.tree, []), [])
        self.assertEqual(self.chosen(self.tree, [self.town.commit(2000, 2, CREATED)]), [])

    def test_at_most_8(self):
        words = [self.town.commit(2000 + at, 1, CREATED) for at in range(12)]
        for many in range(13):
            self.assertEqual(self.chosen(self.tree, words[:many]), words[:many][:8])

    def test_some_can_run(self):
        a = [None, *[self.town.commit(2000, number, CREATED) for number in range(1, 6)]]
        b = [None, *[self.town.commit(2001, number, CREATED) for number in range(1, 6)]]
        for words, told in [
            ([a[1], a[2], b[1]], [a[1], a[2], b[1]]), ([a[2], a[1], b[1]], [a[1], b[1]]), ([a[2], a[1], a[2]], [a[1], a[2]]),
            ([a[1], a[1], a[2], a[1]], [a[1], a[2]]), ([b[3], b[2], b[1], a[2]], [b[1]]), ([a[1], a[3], b[1], a[4]], [a[1], b[1]]),
            ([a[5], b[1], a[1], b[2], a[3], a[2], b[4], a[3]], [b[1], a[1], b[2], a[2], a[3]]),
        ]:
            self.assertEqual(self.chosen(self.tree, words), told)
        behind = self.block_behind(self.tree, (a[1],))
        self.assertEqual(self.chosen(behind, [a[1], a[2], a[3]]), [a[2], a[3]])

    def test_those_that_cannot_run_do_not_count(self):
        waiting = [self.town.commit(2000 + at, 2, CREATED) for at in range(10)]
        able = [self.town.commit(3000 + at, 1, CREATED) for at in range(10)]
        mixed = [word for pair in zip(waiting, able) for word in pair]
        self.assertEqual(self.chosen(self.tree, mixed), able[:8])

    def test_different_commits_with_one_number(self):
        one, other = self.town.commit(2000, 1, CREATED), self.town.commit(2000, 1, (MANY, None))
        self.assertEqual(self.chosen(self.tree, [one, other]), [one])
        self.assertEqual(self.chosen(self.tree, [other, one]), [other])

    def test_what_is_no_commit(self):
        good = self.town.commit(2000, 1, CREATED)
        unsealed = ("sealed", 2001, ("transaction", 2001, 1, (CREATED,)))
        self.assertEqual(self.chosen(self.tree, [unsealed, None, 1, (), "a", good, good[2]]), [good])

    def test_the_list_is_neither_modified_nor_kept(self):
        words = [self.town.commit(2000 + at, 1 + at // 2, CREATED) for at in range(12)]
        copy = list(words)
        block = chosen(self.town.registry, self.tree, words, FOUNDER)
        self.assertEqual(words, copy)
        words.clear()
        self.assertEqual(block, tuple(copy[:2]))

    def test_headers_behind_what_is_chosen(self):
        words = [self.town.commit(2000, 2, CREATED), self.town.commit(2001, 1, CREATED), self.town.commit(2000, 1, CREATED)]
        block = chosen(self.town.registry, self.tree, words, FOUNDER)
        self.assertEqual(block, (words[1], words[2]))
        made, behind = made_header(self.town.registry, self.town.header(), self.tree, block, FOUNDER)
        self.assertEqual(made[3], self.town.registry.name(block))
        self.assertEqual(chosen(self.town.registry, behind, words, FOUNDER), (words[0],))


if __name__ == "__main__":
    unittest.main()
