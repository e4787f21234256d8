"""Papers and outcomes, and how they are judged."""

import random
import unittest

from streets import HouseTest, inserts
from test_heads import ANYTHING, with_part
from test_names import STRANGE, nested
from test_session import COUNT, ROWS, SessionTest
from towns import CREATE, CREATED, FOUNDER, Town
from trothbase.ledger import run_items
from trothbase.names import Registry, same
from trothbase.session import judged_answers, judged_pages
from trothbase.trees import Tree

LEAF = ("leaf", (((0, "t"), (("integer",), 1)),))
NO_PAGES = [None, 1, "page", (), ("leaf",), ("leaf", (1,)), ("node", ()), ("node", (((1,), 0),)), ("leaf", (), ()), ("Leaf", ())]


class JudgedPagesTest(unittest.TestCase):
    def setUp(self):
        self.registry = Registry()

    def judged(self, *pages):
        return judged_pages(self.registry, pages)

    def test_pages_by_their_names(self):
        pages = [("leaf", ()), LEAF, ("node", (((0, "t"), 7),))]
        self.assertEqual(self.judged(*pages), {self.registry.name(page): page for page in pages})
        self.assertEqual(self.judged(), {})
        self.assertEqual(self.judged(LEAF, LEAF), {self.registry.name(LEAF): LEAF})

    def test_kinds_in_pages(self):
        one, other = ("leaf", (((2, 5), (1, True)),)), ("leaf", (((2, 5), (True, 1)),))
        found = self.judged(one, other)
        self.assertEqual(len(found), 2)
        for page in (one, other):
            self.assertTrue(same(found[self.registry.name(page)], page))

    def test_what_is_no_page(self):
        self.assertEqual(self.judged(*NO_PAGES), {})
        self.assertEqual(self.judged(*NO_PAGES, LEAF, *NO_PAGES), {self.registry.name(LEAF): LEAF})

    def test_any_value(self):
        for value in [*ANYTHING, *STRANGE, [LEAF], {1: LEAF}, LEAF, nested(500)]:
            self.assertEqual(judged_pages(self.registry, value), {})
        for strange in STRANGE:
            self.assertEqual(self.judged(LEAF, strange), {})
            self.assertEqual(self.judged(LEAF, ("leaf", (((1,), strange),))), {})
        self.assertEqual(self.judged(LEAF, nested(29)), {self.registry.name(LEAF): LEAF})
        self.assertEqual(self.judged(LEAF, nested(30)), {})

    def test_a_dict_that_the_caller_changes(self):
        pages = (LEAF,)
        self.judged(*pages).clear()
        self.assertEqual(len(self.judged(*pages)), 1)


class JudgedAnswersTest(unittest.TestCase):
    def setUp(self):
        self.town = Town()
        tree = self.town.tree()
        for number, statements in [(1, [CREATE]), (2, inserts(0, 11)), (3, inserts(11, 22)), (4, inserts(22, 33))]:
            _, tree = self.town.head(self.town.header(), tree, (self.town.told(tree, 2000, number, *statements),))
        self.tree = tree

    def visited(self, statements, session=2000):
        """The answers, and the pages that are visited for them."""
        tree = Tree(self.town.registry, self.tree.root, self.tree.pages())
        answers, _ = run_items(tree, (*statements[:-1], (statements[-1], None)), session, FOUNDER)
        return answers, tuple(tree.pages()[name] for name in tree.visited())

    def judged(self, pages, statements, session=2000):
        return judged_answers(self.town.registry, self.tree.root, pages, statements, session, FOUNDER)

    def check(self, *statements, session=2000):
        answers, pages = self.visited(statements, session)
        self.assertEqual(self.judged(pages, statements, session), answers)
        self.assertEqual(self.judged(pages[::-1], statements, session), answers)
        self.assertEqual(self.judged((LEAF, *pages, 5, *pages), statements, session), answers)
        self.assertEqual(self.judged(tuple(self.tree.pages().values()), statements, session), answers)
        for at, page in enumerate(pages):
            self.assertIsNone(self.judged(pages[:at] + pages[at + 1:], statements, session))
            kind, parts = page
            for made in [(kind, parts[:-1]), (kind, parts[::-1]), (kind, ((parts[0][0], 7), *parts[1:]))]:
                if made != page:
                    self.assertIsNone(self.judged(with_part(pages, at, made), statements, session))
        return answers

    def test_one_statement(self):
        self.assertEqual(self.check(COUNT), [("answer", 33)])
        self.assertEqual(self.check(CREATE), [("problem", ("exists", "t"))])
        self.assertEqual(self.check(inserts(50, 51)[0]), [("answer", True)])
        self.assertEqual(self.check(inserts(5, 6)[0]), [("problem", ("key", "t"))])
        self.assertEqual(self.check(("drop", "u")), [("problem", ("no table", "u"))])
        self.assertEqual(self.check(("replace", 0, 15), session=FOUNDER), [("answer", True)])

    def test_several_statements(self):
        first, second = inserts(50, 52)
        answers = self.check((first, 1), (second, None), (COUNT, ()), COUNT)
        self.assertEqual(answers, [("answer", True), ("answer", True), ("answer", 35), ("answer", 35)])
        self.assertEqual(self.check((("drop", "t"), 0), COUNT), [("answer", 33), ("problem", ("no table", "t"))])

    def test_the_session_and_the_founder(self):
        self.assertEqual(self.judged((), (("replace", 0, 15),)), [("problem", ("founder",))])
        self.assertIsNone(self.judged((), (("replace", 0, 15),), session=FOUNDER))

    def test_any_pages(self):
        for pages in [*ANYTHING, *STRANGE, list(self.tree.pages().values()), self.tree.pages(), (LEAF,), NO_PAGES, tuple(NO_PAGES)]:
            self.assertIsNone(self.judged(pages, (COUNT,)))
        good = tuple(self.tree.pages().values())
        for strange in STRANGE:
            self.assertIsNone(self.judged((*good, strange), (COUNT,)))


class PapersTest(SessionTest):
    def setUp(self):
        super().setUp()
        self.grow()
        self.decide(self.commit(2001, 2, *inserts(9, 20)))
        self.follow()
        self.one.begin()

    def paper(self, statement=COUNT):
        """The paper that is waited for, now."""
        return self.ask(2000, self.one.say(statement))

    def check_not_heeded(self, *papers):
        before = (self.one.asked(), self.one.said())
        for paper in papers:
            self.assertIsNone(self.one.hear(paper), paper)
            self.assertEqual((self.one.asked(), self.one.said()), before)

    def test_right_pages_more_and_fewer(self):
        paper = self.paper(ROWS)
        pages = paper[3]
        self.assertGreater(len(pages), 2)
        for at in range(len(pages)):
            self.check_not_heeded(with_part(paper, 3, pages[:at] + pages[at + 1:]))
        answer = ("answer", ("answer", tuple((key,) for key in range(20))))
        self.assertEqual(self.one.hear(with_part(paper, 3, (LEAF, *NO_PAGES, *pages[::-1], LEAF))), answer)

    def test_made_up_pages(self):
        paper = self.paper(ROWS)
        for at, (kind, parts) in enumerate(paper[3]):
            for made in [(kind, parts[1:]), (kind, parts[:1]), (kind, tuple((key, 5) for key, _ in parts))]:
                self.check_not_heeded(with_part(paper, 3, with_part(paper[3], at, made)))
        self.assertEqual(self.one.hear(paper)[0], "answer")

    def test_another_height(self):
        paper = self.paper()
        other = self.session(2002)
        other.hear(("heads", self.heads(11)[:1]))
        other.begin()
        old = self.ask(2002, other.say(COUNT))
        self.assertEqual(old[:3], ("paper", 1, (COUNT,)))
        self.check_not_heeded(old, with_part(old, 1, 3), with_part(paper, 1, 1), with_part(paper, 1, 4), with_part(paper, 1, True))
        self.check_not_heeded(with_part(paper, 1, None), with_part(paper, 1, "3"))
        self.assertEqual(self.one.hear(paper), ("answer", ("answer", 20)))

    def test_other_statements(self):
        paper = self.paper()
        for statements in [(ROWS,), (COUNT, COUNT), (), COUNT, ((COUNT, ("answer", 20)), COUNT), ((COUNT, ("answer", 20)),), None]:
            self.check_not_heeded(with_part(paper, 2, statements))
        self.assertEqual(self.one.hear(paper), ("answer", ("answer", 20)))

    def test_kinds_in_statements(self):
        update = ("update", "t", ((1, ("value", "x")),), (("=", ("column", "t", 0), ("value", 1)),))
        paper = self.paper(update)
        self.check_not_heeded(with_part(paper, 2, (with_part(update, 2, ((True, ("value", "x")),)),)))
        self.assertEqual(self.one.hear(paper), ("answer", ("answer", 1)))

    def test_papers_of_another_session(self):
        """What the founder is told is not what another session is told; the words do not show it."""
        statement = ("replace", 0, 15)
        word = self.one.say(statement)
        found = self.ask(FOUNDER, word)
        self.assertNotEqual(found[3], ())
        self.assertEqual(self.one.hear(found), ("answer", ("problem", ("founder",))))

    def test_own_changes(self):
        for statement, answer in [
            (inserts(90, 91)[0], ("answer", True)), (inserts(90, 91)[0], ("problem", ("key", "t"))), (COUNT, ("answer", 21)),
            (("delete", "t", ()), ("answer", 21)), (COUNT, ("answer", 0)), (("drop", "t"), ("answer", 0)),
            (COUNT, ("problem", ("no table", "t"))), (CREATE, ("answer", True)), (COUNT, ("answer", 0)),
        ]:
            self.assertEqual(self.tell(self.one, statement), answer)

    def test_an_earlier_answer_that_is_not_the_same(self):
        """It is never so at a right session; the items are changed by hand."""
        self.assertEqual(self.tell(self.one, COUNT), ("answer", 20))
        for wrong in [("answer", 21), ("answer", True), ("problem", 20), ("answer", 20, 0)]:
            self.one._said = ((COUNT, wrong),)
            self.check_not_heeded(self.ask(2000, self.one.say(ROWS)))
            self.one._statement = None
        self.one._said = ((COUNT, ("answer", 20)),)
        self.assertEqual(self.tell(self.one, ROWS)[0], "answer")

    def test_an_earlier_answer_true_for_one(self):
        delete = ("delete", "t", (("=", ("column", "t", 0), ("value", 3)),))
        self.assertEqual(self.tell(self.one, delete), ("answer", 1))
        self.one._said = ((delete, ("answer", True)),)
        self.check_not_heeded(self.ask(2000, self.one.say(COUNT)))

    def test_a_paper_that_comes_late_and_twice(self):
        paper = self.paper()
        self.one.hear(paper)
        self.assertIsNone(self.one.hear(paper))
        self.assertEqual(len(self.one.said()), 1)
        self.one.say(COUNT)
        self.check_not_heeded(paper)


class OutcomesTest(SessionTest):
    def setUp(self):
        super().setUp()
        self.decide(self.town.told(self.town.tree(), 3000, 1, CREATE))
        self.decide(self.commit(3000, 2, *inserts(0, 12)))
        self.decide(self.commit(3000, 3, *inserts(12, 24)))

    def send(self, *statements):
        """A commit of the session that is decided by the houses."""
        self.one.begin()
        for statement in statements or (COUNT,):
            self.tell(self.one, statement)
        self.word = self.one.commit()
        return self.word

    def check_waiting(self, *words):
        before = self.one.asked()
        self.assertEqual(len(before), 3)
        for word in words:
            self.assertIsNone(self.one.hear(word), word)
            self.assertEqual(self.one.asked(), before)
        self.assertRaises(Exception, self.one.begin)

    def outcome(self, owner=11, session=2000):
        return self.ask(session, ("outcome?", session), owner)

    def test_done(self):
        self.follow()
        self.decide(self.send())
        self.follow()
        outcome = self.outcome()
        self.assertEqual(self.one.hear(outcome), ("outcome", ("done",), 4))
        self.assertIsNone(self.one.hear(outcome))
        self.assertIsNone(self.one.asked())
        self.one.begin()

    def test_refused(self):
        self.follow()
        self.decide(self.commit(3001, 1, *inserts(50, 51)))
        self.decide(self.send(("drop", "u"), COUNT))
        self.follow()
        self.assertEqual(self.one.hear(self.outcome()), ("outcome", ("refused", 1, ("answer", 25)), 5))

    def test_before_it_is_decided(self):
        self.follow()
        self.send()
        for height in range(4):
            tree = self.houses[11].tree()
            self.check_waiting(("outcome", height, 2000, tuple(tree.pages().values())))
        self.check_waiting(self.outcome())

    def test_a_header_that_is_not_trusted(self):
        self.follow()
        self.decide(self.send())
        outcome = self.outcome()
        self.assertEqual(outcome[1], 4)
        self.check_waiting(outcome, with_part(outcome, 1, 3))
        self.follow()
        self.assertEqual(self.one.hear(outcome), ("outcome", ("done",), 4))

    def test_heights(self):
        self.follow()
        self.decide(self.send())
        self.follow()
        outcome = self.outcome()
        for height in [-1, -2, 5, 10 ** 59, True, False, None, "4", (4,), 3, 2, 1, 0]:
            self.check_waiting(with_part(outcome, 1, height))
        self.assertEqual(self.one.hear(outcome), ("outcome", ("done",), 4))

    def test_booleans_as_heights(self):
        """At height 1 the outcome is there; True is not this height."""
        self.build()
        self.one = self.session(2000)
        self.one.begin()
        self.assertEqual(self.tell(self.one, CREATE), ("answer", True))
        self.decide(self.one.commit())
        self.follow()
        outcome = self.outcome()
        self.check_waiting(with_part(outcome, 1, True))
        self.assertEqual(self.one.hear(outcome), ("outcome", ("done",), 1))

    def test_a_later_height(self):
        self.follow()
        self.decide(self.send())
        self.decide(self.commit(3001, 1, *inserts(60, 70)))
        self.follow()
        self.assertEqual(self.one.hear(self.outcome()), ("outcome", ("done",), 5))

    def test_the_outcome_of_another_session(self):
        self.follow()
        self.decide(self.send())
        self.follow()
        outcome = self.outcome()
        for session in [3000, 2001, None, "2000", (2000,), -2000]:
            self.check_waiting(with_part(outcome, 2, session))
        self.check_waiting(self.outcome(session=3000))

    def test_the_outcome_of_another_session_with_the_same_number(self):
        self.follow()
        self.send()
        self.decide(self.commit(3001, 1, ("drop", "u")))
        self.follow()
        self.check_waiting(self.outcome(session=3001), with_part(self.outcome(session=3001), 2, 2000))

    def test_pages(self):
        self.follow()
        self.decide(self.send())
        self.follow()
        outcome = self.outcome()
        pages = outcome[3]
        self.assertGreater(len(pages), 1)
        for at, (kind, parts) in enumerate(pages):
            self.check_waiting(with_part(outcome, 3, pages[:at] + pages[at + 1:]))
            for made in [(kind, parts[1:]), (kind, parts[:-1]), (kind, tuple((key, (1, ("done",))) for key, _ in parts))]:
                self.check_waiting(with_part(outcome, 3, with_part(pages, at, made)))
        for wrong in [None, (), 5, "pages", (5,), pages[0]]:
            self.check_waiting(with_part(outcome, 3, wrong))
        more = (LEAF, 5, *pages[::-1], *pages)
        self.assertEqual(self.one.hear(with_part(outcome, 3, more)), ("outcome", ("done",), 4))

    def test_another_number(self):
        """The outcome of the first commit is not that of the second one."""
        self.follow()
        self.decide(self.send())
        self.follow()
        old = self.outcome()
        self.assertEqual(self.one.hear(old), ("outcome", ("done",), 4))
        self.send(ROWS)
        self.check_waiting(old)
        self.decide(self.word)
        self.check_waiting(old)
        self.follow()
        self.check_waiting(old)
        self.assertEqual(self.one.hear(self.outcome()), ("outcome", ("done",), 5))

    def test_a_session_that_waits_for_nothing(self):
        self.follow()
        for session in (2000, 3000):
            self.assertIsNone(self.one.hear(self.outcome(session=session)))
        self.one.begin()
        self.assertIsNone(self.one.hear(self.outcome()))


class RandomPagesTest(HouseTest):
    def test_any_pages_of_a_house_lead_to_the_right_answer_or_to_none(self):
        self.decide(self.commit())
        for at in range(3):
            self.decide(self.commit(2000, at + 1, *inserts(11 * at, 11 * at + 11)))
        tree = self.houses[11].tree()
        pages = list(tree.pages().values())
        chance = random.Random(1)
        told = []
        for _ in range(300):
            statements = ((inserts(40, 41)[0], None), chance.choice([COUNT, ROWS, ("drop", "t"), CREATE, CREATED[0], ("drop", "u")]))
            answers, _ = run_items(self.fresh(tree), (statements[0], (statements[1], 0)), 2000, FOUNDER)
            some = chance.sample(pages, chance.randrange(len(pages) // 2, len(pages) + 1))
            found = judged_answers(self.registry, tree.root, tuple(some), statements, 2000, FOUNDER)
            self.assertIn(found, (None, answers))
            told.append(found is None)
        self.assertGreater(told.count(True), 20)
        self.assertGreater(told.count(False), 20)


if __name__ == "__main__":
    unittest.main()
