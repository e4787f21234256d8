"""What a house does with each word of the table of point [40], but for heads and pages."""

import unittest

from streets import SENDERS, HouseTest, inserts
from test_heads import ANYTHING
from test_names import STRANGE, nested
from towns import CREATE, CREATED, FOUNDER
from trothbase.ledger import made_header, run_items

NO_INTEGERS = [True, False, None, "", "1", (), (1,), (0,)]
SELECT = ("select", ("rows", (("column", "t", 0), ("column", "t", 1))), (("t", "t"),), (("<", ("column", "t", 0), ("value", 3)),))


class WordsTest(HouseTest):
    def setUp(self):
        super().setUp()
        self.house = self.houses[11]

    def grow(self, heights=3):
        """The town at a height, with a table of some rows."""
        self.decide(self.commit())
        for at in range(heights - 1):
            self.decide(self.commit(2000, at + 1, *inserts(9 * at, 9 * at + 9)))
        self.house = self.houses[11]

    def check(self, word, *answers, senders=SENDERS):
        """What is sent to the sender, and nothing else."""
        before = (self.house.height(), self.house.stand(), self.house.pool(), self.shelves[11].records())
        for sender in senders:
            self.check_sent(self.house.hear(sender, word), *[(sender, answer) for answer in answers])
        self.assertEqual((self.house.height(), self.house.stand(), self.house.pool(), self.shelves[11].records()), before)


class AnythingTest(WordsTest):
    def test_any_value(self):
        for heights in (0, 3):
            if heights:
                self.grow(heights)
            for value in [*ANYTHING, *STRANGE, nested(500), nested(29), ("a",), ("heads",), ("heads?",), ("sealed",)]:
                self.check(value)

    def test_any_part(self):
        self.grow()
        for value in [*ANYTHING, *STRANGE]:
            for word in [
                (value,), (value, 1), ("heads", value), ("pages", value), ("heads", (value,)), ("heads", ((value, value),)),
                ("pages", (value,)), ("block", value, value), ("sealed", value, value), ("sealed", 12, value),
                ("sealed", 12, ("prevote", value, 0, None)), ("paper?", value, (CREATE,)), ("paper?", 0, value),
                ("paper?", 0, (value,)), ("paper?", 0, (value, CREATE)), ("pages?", (value, -1)), ("paper", 0, (CREATE,), value),
                ("outcome", 0, 2000, value), ("heads", ((self.town.header(), value),)), ("transaction", value),
            ]:
                # An integer is right in some places, and these have their own tests.
                if type(value) is not int or word[0] not in ("paper?", "pages?"):
                    self.check(word)

    def test_what_is_no_plain_value_is_no_word(self):
        self.grow()
        for word in [
            ["heads?", 0], ("heads?", 0, []), ("pages?", [1, 2]), ["pages?", (1, 2)], ("pages?", (1, 2, 3, 1.0)),
            ("paper?", 0, [CREATE]), ("paper?", 0, ((CREATE, [1]), CREATE)), ("paper?", 0, ((CREATE, nested(28)), CREATE)),
        ]:
            self.check(word)

    def test_words_of_other_lengths(self):
        self.grow()
        for word in [("heads?", 0), ("pages?", (1,)), ("paper?", 0, (CREATE,)), ("outcome?", 2000), ("heads?", 9)]:
            self.assertNotEqual(self.house.hear(2000, word), [])
            self.check((*word, 0))
            self.check(word[:-1])
            self.check((word,))
            self.check(word[::-1])
            self.check((word[0].upper(), *word[1:]))
            self.check((word[0][:-1], *word[1:]))

    def test_the_words_of_houses_and_sessions_to_sessions(self):
        self.grow()
        self.check(("paper", 0, (CREATE,), ()))
        self.check(("outcome", 0, 2000, ()))
        self.check(("certificate", 0, (11, 12, 13)))
        self.check(self.house.head())
        self.check(self.founding)
        for record in self.shelves[11].records():
            if record[0] != "block":
                self.check(record)


class AgreementWordsTest(WordsTest):
    """Words of the next height, and blocks."""

    def made(self, *block):
        house = self.house
        return (*made_header(self.registry, house.head()[0], house.tree(), block, FOUNDER)[:1], block)

    def test_a_word_of_the_next_height(self):
        header, block = self.made(self.commit())
        name = self.registry.name(header)
        word = self.town.seal(12, ("proposal", 1, 0, header, block, -1))
        for sender in (14, 9999):
            self.restart(11)
            self.house = self.houses[11]
            vote = self.town.seal(11, ("prevote", 1, 0, name))
            found = self.house.hear(sender, word)
            if sender == 14:
                self.check_sent(found, (12, vote), (13, vote), (14, vote))
            self.check(word)

    def test_a_block(self):
        header, block = self.made(self.commit())
        name = self.registry.name(header)
        for owner in (12, 13, 14):
            self.check_sent(self.house.hear(owner, self.town.seal(owner, ("precommit", 1, 0, name))))
        head = (header, ("certificate", 0, (12, 13, 14)))
        self.check(("block", header, (1, 2)))
        found = self.house.hear(9999, ("block", header, block))
        self.check_sent(found, *[(owner, ("heads", (head,))) for owner in (12, 13, 14)])
        self.assertEqual(self.house.head(), head)
        self.check(("block", header, block))

    def test_words_of_the_next_height_that_are_not_good(self):
        self.grow()
        for word in [
            ("sealed", 12, ("prevote", 4, 0, None)), self.town.seal(500, ("prevote", 4, 0, None)),
            self.town.seal(12, ("prevote", 4, -1, None)), self.town.seal(12, ("prevote", 4, 0, 0)),
            self.town.seal(12, ("proposal", 4, 0, 1, 2, 3)), self.town.seal(12, ("precommit", 4)),
            self.town.seal(12, ("vote", 9, 0, None)), self.town.seal(12, ("commit", 1)), self.town.seal(12, "prevote"),
            self.town.seal(12, ("prevote",)), self.town.seal(12, (("prevote", 1), 2)), self.town.seal(12, ("prevote", "1")),
            self.town.seal(12, ("prevote", None, 0, None)), self.town.seal(12, (1, "prevote")),
        ]:
            self.check(word)


class OtherHeightsTest(WordsTest):
    """Good sealed words of other heights."""

    def bodies(self, height):
        yield from [("prevote", height, 0, None), ("precommit", height, 3, 7), ("proposal", height, 0, 1, 2, 3)]
        yield from [("prevote", height), ("precommit", height, "x"), ("proposal", height, (), (), ())]

    def test_later_heights(self):
        for heights in (0, 3):
            if heights:
                self.grow(heights)
            for height in (heights + 2, heights + 3, 10 ** 59):
                for body in self.bodies(height):
                    for owner in (12, 500, 2000):
                        self.check(self.town.seal(owner, body), ("heads?", heights))

    def test_earlier_heights(self):
        self.grow(3)
        heads = self.heads(11)
        self.assertEqual(len(heads), 3)
        for height in (1, 2, 3):
            for body in self.bodies(height):
                for owner in (12, 11, 500, 2000):
                    self.check(self.town.seal(owner, body), ("heads", heads[height - 1:]))

    def test_heights_that_are_none(self):
        self.grow(3)
        for height in [0, -1, -(10 ** 59), *NO_INTEGERS]:
            for body in self.bodies(height):
                self.check(self.town.seal(12, body))

    def test_words_that_are_not_good(self):
        self.grow(3)
        for height in (1, 3, 5):
            body = ("prevote", height, 0, 77)
            self.check(("sealed", 12, body))
            word = self.town.seal(13, body)
            for wrong in [("sealed", 12, body), (*word, 1), word[:2], ("Sealed", *word[1:]), ("sealed", 13, (*body, 1))]:
                self.check(wrong)

    def test_bodies_of_other_kinds(self):
        self.grow(3)
        for kind in ["vote", "Prevote", "", None, 1, ("prevote",), "transaction", "block", "heads"]:
            for height in (1, 5):
                self.check(self.town.seal(12, (kind, height, 0, None)))


class HeadsAskedTest(WordsTest):
    def test_heads(self):
        self.check(("heads?", 0))
        for height in (1, 5, 10 ** 59):
            self.check(("heads?", height), ("heads?", 0))
        self.grow(3)
        heads = self.heads(11)
        for height in (0, 1, 2):
            self.check(("heads?", height), ("heads", heads[height:]))
        self.check(("heads?", 3))
        for height in (4, 5, 10 ** 59):
            self.check(("heads?", height), ("heads?", 3))

    def test_wrong_heights(self):
        self.grow(3)
        for height in [-1, -5, *NO_INTEGERS]:
            self.check(("heads?", height))

    def test_certificates_are_those_of_the_house(self):
        self.grow(3)
        for owner in self.owners:
            certificates = [record[3] for record in self.records(owner, "block")]
            self.assertEqual([certificate for _, certificate in self.heads(owner)], certificates)


class PagesAskedTest(WordsTest):
    def test_pages(self):
        self.grow(3)
        pages = self.house.tree().pages()
        names = sorted(self.reachable(self.house.tree().root, pages))
        self.assertGreater(len(names), 3)
        for asked in [names, names[::-1], names[:1], names[1:] + names[:2], names[:1] * 3]:
            self.check(("pages?", tuple(asked)), ("pages", tuple(pages[name] for name in asked)))

    def test_pages_that_it_does_not_have(self):
        self.grow(3)
        pages = self.house.tree().pages()
        root = self.house.tree().root
        alien = self.registry.name(("leaf", (((0, "alien"), 1),)))
        for others in [(), (0,), (-1, alien, 10 ** 59)]:
            self.check(("pages?", others))
            self.check(("pages?", (*others, root, *others)), ("pages", (pages[root],)))

    def test_pages_of_all_its_heights(self):
        for heights in range(1, 4):
            self.build()
            self.grow(heights)
            known = self.all_pages(11)
            for header, _ in self.heads(11):
                self.reachable(header[4], known)
            self.reachable(self.town.tree().root, known)

    def test_pages_of_blocks_that_were_only_tried(self):
        self.grow(3)
        before = self.all_pages(11)
        commit = self.commit(2001, 1, *inserts(100, 112))
        header, tree = made_header(self.registry, self.house.head()[0], self.house.tree(), (commit,), FOUNDER)
        new = tuple(sorted(name for name in tree.pages() if name not in self.house.tree().pages()))
        self.assertNotEqual(new, ())
        self.house.hear(9, self.town.seal(11 + (4 % 4), ("proposal", 4, 0, header, (commit,), -1)))
        self.house.hear(9, commit)
        for owner in (12, 13, 14):
            self.house.hear(owner, self.town.seal(owner, ("prevote", 4, 0, self.registry.name(header))))
        self.assertEqual(self.house.stand(), (4, 0, 2))
        self.check(("pages?", new))
        self.assertEqual(self.all_pages(11), before)
        for owner in (12, 13):
            self.house.hear(owner, self.town.seal(owner, ("precommit", 4, 0, self.registry.name(header))))
        self.assertEqual(self.house.height(), 4)
        found = self.house.hear(12, ("pages?", (header[4],)))
        self.assertEqual(found, [(12, ("pages", (tree.pages()[header[4]],)))])

    def test_names_that_are_none(self):
        self.grow(3)
        root = self.house.tree().root
        for wrong in [True, False, None, "1", (root,), ()]:
            self.check(("pages?", (root, wrong)))
            self.check(("pages?", (wrong, root)))
        for wrong in [root, None, True, "", "ab"]:
            self.check(("pages?", wrong))


class PaperAskedTest(WordsTest):
    def expected(self, tree, statements, session):
        """The pages that are visited when the statements are said."""
        tree = self.fresh(tree)
        items = [*statements[:-1], (statements[-1], None)]
        answers, _ = run_items(tree, items, session, FOUNDER)
        pages = tree.pages()
        return answers, tuple(pages[name] for name in tree.visited())

    def check_paper(self, height, statements, senders=(FOUNDER, 2000, 9999)):
        for sender in senders:
            _, pages = self.expected(self.trees[height], statements, sender)
            self.check(("paper?", height, statements), ("paper", height, statements, pages), senders=(sender,))

    def setUp(self):
        super().setUp()
        self.trees = [self.house.tree()]
        self.decide(self.commit())
        self.trees.append(self.house.tree())
        for at in range(3):
            self.decide(self.commit(2000, at + 1, *inserts(11 * at, 11 * at + 11)))
            self.trees.append(self.house.tree())

    def test_papers(self):
        insert = ("insert", "t", (50, "x"))
        for height in range(5):
            for statement in [SELECT, CREATE, insert, ("drop", "t"), ("replace", 0, 500), ("delete", "t", ())]:
                self.check_paper(height, (statement,))
        self.assertGreater(len(self.expected(self.trees[4], (SELECT,), 2000)[1]), 1)
        self.assertEqual(self.expected(self.trees[4], (("replace", 0, 500),), 2000)[1], ())

    def test_a_paper_has_no_more_than_what_is_visited(self):
        """It lacks the pages of rows that are not asked for."""
        pages = self.trees[4].pages()
        all_names = self.reachable(self.trees[4].root, pages)
        insert = ("insert", "t", (50, "x"))
        self.assertLess(len(self.expected(self.trees[4], (insert,), 2000)[1]), len(all_names))
        self.check_paper(4, (insert,))

    def test_several_statements(self):
        first, second = inserts(60, 62)
        for told in [("answer", True), ("problem", ("key", "t")), None, 7, nested(20)]:
            self.check_paper(4, ((first, told), (second, told), SELECT))
        statements = tuple((statement, None) for statement in inserts(70, 81))
        self.assertEqual(len(statements), 11)
        self.check_paper(4, (*statements, SELECT))

    def test_statements_see_the_earlier_ones(self):
        self.check_paper(0, ((CREATE, 5), SELECT))
        self.check_paper(4, ((("drop", "t"), 5), SELECT))
        answers, _ = self.expected(self.trees[4], ((("drop", "t"), 5), SELECT), 2000)
        self.assertEqual(answers[1], ("problem", ("no table", "t")))

    def test_the_session_is_the_sender(self):
        statements = (("replace", 0, 500),)
        for sender in (FOUNDER, 2000):
            self.check_paper(4, statements, senders=(sender,))
        self.assertNotEqual(self.expected(self.trees[4], statements, FOUNDER)[1], ())

    def test_other_senders(self):
        for sender in (1, 11, 12, 500, 999):
            self.check(("paper?", 4, (SELECT,)), senders=(sender,))
        self.check_paper(4, (SELECT,), senders=(1000, 9999))

    def test_other_heights(self):
        for height in [5, 6, -1, 10 ** 59, *NO_INTEGERS]:
            self.check(("paper?", height, (SELECT,)), senders=(2000,))

    def test_statements_that_are_none(self):
        item = (SELECT, ("answer", 0))
        for statements in [
            (), (item,), SELECT, (SELECT, SELECT), (item, item), ((SELECT,), SELECT), ((SELECT, 0, 0), SELECT),
            (("select",), ), (item, ("select",)), ((("select",), 0), SELECT), (None,), (0, SELECT), None, 5, "ab",
            tuple([item] * 12 + [SELECT]), ((CREATE, 1), CREATED), (("create", "t", ("integer",), True),),
        ]:
            self.check(("paper?", 4, statements), senders=(2000,))
        self.check_paper(4, tuple([item] * 11 + [SELECT]))


class OutcomeAskedTest(WordsTest):
    def check_outcome(self, session):
        tree = self.house.tree()
        tree.get((2, session))
        pages = tuple(tree.pages()[name] for name in tree.visited())
        self.assertGreater(len(pages), 0)
        self.check(("outcome?", session), ("outcome", self.house.height(), session, pages))

    def test_outcomes(self):
        self.check_outcome(FOUNDER)
        self.grow(4)
        for session in (FOUNDER, 2000, 2001, 9999, 0, -5, 12, 10 ** 59):
            self.check_outcome(session)
        tree = self.house.tree()
        tree.get((2, 2000))
        self.assertLess(len(tree.visited()), len(self.reachable(tree.root, tree.pages())))

    def test_sessions_that_are_none(self):
        self.grow(2)
        for session in NO_INTEGERS:
            self.check(("outcome?", session))


class DueTest(WordsTest):
    """What is due is done behind whatever is heard, and sent behind what is sent to the sender."""

    def check_due(self, word, *answers):
        self.build()
        self.house = self.houses[11]
        head = self.make_due(self.house)
        told = [(owner, ("heads", (head,))) for owner in (12, 13, 14)]
        self.check_sent(self.house.hear(500, word), *[(500, answer) for answer in answers], *told)
        self.assertEqual(self.house.head(), head)

    def test_behind_an_answer(self):
        self.check_due(("heads?", 7), ("heads?", 0))
        root = self.house.head()[0][4]
        self.check_due(("pages?", (root,)))
        self.check_due(("outcome?", 2000), ("outcome", 0, 2000, self.first_pages()))

    def first_pages(self):
        tree = self.town.tree()
        return (tree.pages()[tree.root],)

    def test_behind_what_is_no_word(self):
        for word in [None, [], 1.5, ("heads?", -1), ("heads",), nested(40), ("pages", ()), ("sealed", 1, 2)]:
            self.check_due(word)

    def test_behind_a_commit(self):
        self.check_due(("sealed", 3000, ("transaction", 3000, 1, (CREATED,))))
        self.assertEqual(self.house.pool(), [])


if __name__ == "__main__":
    unittest.main()
