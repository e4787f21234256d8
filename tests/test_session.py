import unittest

from streets import HouseTest, inserts
from test_heads import ANYTHING, with_part
from test_names import STRANGE, nested
from towns import CREATE, FOUNDER, Town
from trothbase.errors import InvalidArgument, NoTransaction, StillWaiting, TransactionOpen
from trothbase.forms import is_statement
from trothbase.ledger import is_commit
from trothbase.session import Session

COUNT = ("select", ("count",), (("t", "t"),), ())
ROWS = ("select", ("rows", (("column", "t", 0),)), (("t", "t"),), ())


class SessionTest(HouseTest):
    """A session and the houses of a town, which all have the same heights."""

    def setUp(self):
        super().setUp()
        self.one = self.session(2000)
        self.founder = self.session(FOUNDER)

    def ask(self, session, word, owner=11):
        """The answer of a house to a word of a session."""
        ((to, answer),) = self.houses[owner].hear(session, word)
        self.assertEqual(to, session)
        return answer

    def tell(self, session, statement, owner=11):
        """Says a statement and judges its paper; the answer."""
        number = {id(self.one): 2000, id(self.founder): FOUNDER}[id(session)]
        found = session.hear(self.ask(number, session.say(statement), owner))
        self.assertEqual(found[0], "answer")
        return found[1]

    def grow(self):
        self.decide(self.commit())
        self.decide(self.commit(2001, 1, *inserts(0, 9)))

    def follow(self, session=None):
        session = session or self.one
        heads = self.heads(11)[session.height():]
        self.assertEqual(session.hear(("heads", heads)), ("heads", len(heads)))

    def check_state(self, session, asked=None, said=()):
        self.assertEqual((session.asked(), session.said()), (asked, said))


class StatesTest(SessionTest):
    """Each method in each state, and each error before it changes anything."""

    def errors(self, session, **expected):
        """The methods that raise errors now; the session stays as it was."""
        before = (session.asked(), session.said(), session.height())
        for name, call in [
            ("begin", session.begin), ("say", lambda: session.say(COUNT)), ("wrong", lambda: session.say(("select",))),
            ("rollback", session.rollback), ("commit", session.commit),
        ]:
            if name in expected:
                self.assertRaises(expected[name], call)
        self.assertEqual((session.asked(), session.said(), session.height()), before)

    def test_no_transaction(self):
        for session in [self.one, self.founder]:
            self.errors(session, say=NoTransaction, wrong=NoTransaction, rollback=NoTransaction, commit=NoTransaction)
            self.check_state(session)

    def test_an_open_transaction(self):
        self.assertIsNone(self.one.begin())
        self.check_state(self.one)
        self.errors(self.one, begin=TransactionOpen, wrong=InvalidArgument, commit=InvalidArgument)
        self.assertIsNone(self.one.rollback())
        self.errors(self.one, say=NoTransaction, wrong=NoTransaction, rollback=NoTransaction, commit=NoTransaction)
        self.one.begin()

    def test_waiting_for_a_paper(self):
        self.one.begin()
        word = self.one.say(COUNT)
        self.assertEqual(word, ("paper?", 0, (COUNT,)))
        self.check_state(self.one, word)
        self.errors(self.one, begin=TransactionOpen, say=StillWaiting, wrong=StillWaiting, commit=StillWaiting)

    def test_rollback_while_a_paper_is_waited_for(self):
        self.one.begin()
        paper = self.ask(2000, self.one.say(COUNT))
        self.assertIsNone(self.one.rollback())
        self.check_state(self.one)
        self.assertIsNone(self.one.hear(paper))
        self.errors(self.one, say=NoTransaction, rollback=NoTransaction, commit=NoTransaction)
        self.one.begin()
        self.assertIsNone(self.one.hear(paper))
        self.assertEqual(self.one.say(COUNT), ("paper?", 0, (COUNT,)))
        self.assertEqual(self.one.hear(paper), ("answer", ("problem", ("no table", "t"))))

    def test_items(self):
        self.one.begin()
        answer = self.tell(self.one, COUNT)
        self.assertEqual(answer, ("problem", ("no table", "t")))
        self.check_state(self.one, said=((COUNT, answer),))
        self.errors(self.one, begin=TransactionOpen, wrong=InvalidArgument)
        self.assertEqual(self.one.say(CREATE), ("paper?", 0, ((COUNT, answer), CREATE)))
        self.errors(self.one, commit=StillWaiting)
        self.assertEqual(self.one.hear(self.ask(2000, self.one.asked())), ("answer", ("answer", True)))
        self.assertEqual(self.one.said(), ((COUNT, answer), (CREATE, ("answer", True))))
        self.one.rollback()
        self.check_state(self.one)

    def test_waiting_for_an_outcome(self):
        self.one.begin()
        answer = self.tell(self.one, CREATE)
        word = self.one.commit()
        self.assertEqual(word, ("sealed", 2000, ("transaction", 2000, 1, ((CREATE, answer),))))
        self.assertIs(is_commit(self.registry, word), True)
        self.check_state(self.one, (word, ("heads?", 0), ("outcome?", 2000)))
        self.errors(
            self.one, begin=StillWaiting, say=NoTransaction, wrong=NoTransaction, rollback=NoTransaction, commit=NoTransaction
        )
        self.assertEqual(self.one.wanted(), ("heads?", 0))

    def test_an_empty_transaction_is_not_committed(self):
        self.one.begin()
        self.errors(self.one, commit=InvalidArgument)
        self.tell(self.one, CREATE)
        self.assertEqual(self.one.commit()[2][2], 1)

    def test_numbers(self):
        """Each commit has the next number; a transaction that is rolled back or refused for want of items has none."""
        for number in range(1, 4):
            self.one.begin()
            self.one.rollback()
            self.one.begin()
            self.errors(self.one, commit=InvalidArgument)
            self.tell(self.one, COUNT)
            word = self.one.commit()
            self.assertEqual(word[2][2], number)
            self.decide(word)
            self.follow()
            self.assertEqual(self.one.asked(), (word, ("heads?", number), ("outcome?", 2000)))
            found = self.one.hear(self.ask(2000, ("outcome?", 2000)))
            self.assertEqual(found, ("outcome", ("done",), number))
            self.check_state(self.one)

    def test_transactions_of_one_to_twelve_items(self):
        self.grow()
        self.follow()
        for many in range(1, 13):
            self.one.begin()
            for at in range(many):
                self.assertEqual(len(self.one.said()), at)
                statement = inserts(100 * many + at, 100 * many + at + 1)[0]
                self.assertEqual(self.tell(self.one, statement), ("answer", True))
            self.assertEqual(len(self.one.said()), many)
            if many == 12:
                self.errors(self.one, say=InvalidArgument, wrong=InvalidArgument, begin=TransactionOpen)
            word = self.one.commit()
            self.assertEqual(len(word[2][3]), many)
            self.decide(word)
            self.follow()
            self.assertEqual(self.one.hear(self.ask(2000, ("outcome?", 2000)))[:2], ("outcome", ("done",)))

    def test_statements_that_are_none(self):
        self.one.begin()
        for value in [*ANYTHING, *STRANGE, (COUNT, None), [COUNT], (*COUNT, 1), COUNT[:3], ("drop", "T"), nested(40)]:
            self.assertIs(is_statement(value), False)
            self.assertRaises(InvalidArgument, self.one.say, value)
            self.check_state(self.one)

    def test_the_next_transaction_begins_anew(self):
        self.grow()
        self.follow()
        self.one.begin()
        self.tell(self.one, ("drop", "t"))
        self.one.rollback()
        self.one.begin()
        self.check_state(self.one)
        self.assertEqual(self.tell(self.one, COUNT), ("answer", 9))


class TrustedTest(SessionTest):
    """Heights and heads."""

    def test_heads(self):
        self.grow()
        heads = self.heads(11)
        self.assertEqual((self.one.height(), self.one.wanted()), (0, ("heads?", 0)))
        for word in [("heads", ()), ("heads", heads[1:]), ("heads", heads[0]), ("heads", None), ("heads", (None, *heads))]:
            self.assertIsNone(self.one.hear(word))
        self.assertEqual(self.one.height(), 0)
        self.assertEqual(self.one.hear(("heads", heads[:1])), ("heads", 1))
        self.assertEqual((self.one.height(), self.one.wanted()), (1, ("heads?", 1)))
        self.assertIsNone(self.one.hear(("heads", heads[:1])))
        self.assertEqual(self.one.hear(("heads", heads)), ("heads", 1))
        self.assertEqual(self.one.height(), 2)
        self.assertEqual(self.founder.hear(("heads", (*heads, None))), ("heads", 2))

    def test_heads_of_houses(self):
        self.grow()
        self.assertEqual(self.one.hear(self.ask(2000, self.one.wanted())), ("heads", 2))
        self.assertEqual(self.houses[11].hear(2000, self.one.wanted()), [])

    def test_false_heads(self):
        self.grow()
        heads = self.heads(11)
        header, certificate = heads[0]
        for wrong in [
            (with_part(header, 4, 7), certificate), (header, ("certificate", 0, (11, 12))), (header, ("certificate", 1, (11, 12, 13))),
            (with_part(header, 2, 7), certificate), (header, None), (header,), header,
        ]:
            self.assertIsNone(self.one.hear(("heads", (wrong, heads[1]))))
            self.assertEqual(self.one.height(), 0)

    def test_heads_in_each_state(self):
        heads = []
        self.decide(self.commit())
        self.one.begin()
        heads.append(self.one.hear(("heads", self.heads(11))))
        self.decide(self.commit(2001, 1, *inserts(0, 3)))
        asked = self.one.say(COUNT)
        heads.append(self.one.hear(("heads", self.heads(11))))
        self.assertEqual(self.one.asked(), asked)
        self.assertEqual(self.one.hear(self.ask(2000, asked)), ("answer", ("problem", ("no table", "t"))))
        word = self.one.commit()
        self.decide(self.commit(2001, 2, *inserts(3, 5)))
        heads.append(self.one.hear(("heads", self.heads(11))))
        self.assertEqual(heads, [("heads", 1)] * 3)
        self.assertEqual(self.one.asked(), (word, ("heads?", 3), ("outcome?", 2000)))

    def test_the_base_stays(self):
        self.decide(self.commit())
        self.follow()
        self.one.begin()
        self.assertEqual(self.tell(self.one, COUNT), ("answer", 0))
        self.decide(self.commit(2001, 1, *inserts(0, 3)))
        self.follow()
        self.assertEqual(self.one.say(COUNT)[1], 1)
        self.assertEqual(self.one.hear(self.ask(2000, self.one.asked())), ("answer", ("answer", 0)))
        self.one.rollback()
        self.one.begin()
        self.assertEqual(self.tell(self.one, COUNT), ("answer", 3))

    def test_a_new_session_trusts_the_founding(self):
        for many in (4, 7, 10):
            town = Town(many)
            session = Session(town.registry, town.pen(2000), town.founding)
            self.assertEqual((session.height(), session.asked(), session.said()), (0, None, ()))
            heads = town.heads(3)
            self.assertEqual(session.hear(("heads", tuple(heads))), ("heads", 3))
            self.assertEqual(session.height(), 3)


class HearingTest(SessionTest):
    def test_any_value_in_each_state(self):
        self.grow()
        for step in range(4):
            if step == 1:
                self.one.begin()
            if step == 2:
                self.one.say(COUNT)
            if step == 3:
                self.one.hear(self.ask(2000, self.one.asked()))
                self.one.commit()
            before = (self.one.asked(), self.one.said(), self.one.height())
            for value in [*ANYTHING, *STRANGE, nested(500), nested(29)]:
                for word in [
                    value, (value,), ("heads", value), ("heads", (value,)), ("paper", 0, (COUNT,), value), (value, 1, 2, 3),
                    ("paper", value, (COUNT,), ()), ("paper", 0, value, ()), ("outcome", 0, 2000, value),
                    ("outcome", value, 2000, ()), ("outcome", 0, value, ()), ("outcome", 0, 2000, (value,)),
                    ("paper", 0, (COUNT,), (value,)),
                ]:
                    self.assertIsNone(self.one.hear(word))
            self.assertEqual((self.one.asked(), self.one.said(), self.one.height()), before)

    def test_words_of_other_kinds(self):
        self.grow()
        self.one.begin()
        self.one.say(COUNT)
        before = self.one.asked()
        for word in [("heads?", 0), ("pages", ()), ("pages?", (1,)), ("paper?", 0, (COUNT,)), ("outcome?", 2000), self.commit(2001, 2)]:
            self.assertIsNone(self.one.hear(word))
        self.assertEqual(self.one.asked(), before)

    def test_words_of_other_lengths(self):
        self.grow()
        self.follow()
        self.one.begin()
        paper = self.ask(2000, self.one.say(COUNT))
        heads = ("heads", self.heads(11))
        for word in [paper, heads]:
            for wrong in [(*word, 1), word[:-1], (word,), list(word), (word[0].upper(), *word[1:])]:
                self.assertIsNone(self.one.hear(wrong))
        self.assertEqual(self.one.hear(paper), ("answer", ("answer", 9)))
        word = self.one.commit()
        self.decide(word)
        self.follow()
        outcome = self.ask(2000, ("outcome?", 2000))
        for wrong in [(*outcome, 1), outcome[:-1], (outcome,), list(outcome), ("Outcome", *outcome[1:])]:
            self.assertIsNone(self.one.hear(wrong))
        self.assertEqual(self.one.hear(outcome), ("outcome", ("done",), 3))

    def test_what_is_not_waited_for(self):
        self.grow()
        self.follow()
        self.one.begin()
        paper = self.ask(2000, self.one.say(COUNT))
        self.one.hear(paper)
        self.assertIsNone(self.one.hear(paper))
        self.assertIsNone(self.one.hear(self.ask(2000, ("outcome?", 2000))))
        self.assertEqual(len(self.one.said()), 1)
        self.one.rollback()
        self.assertIsNone(self.one.hear(self.ask(2000, ("outcome?", 2000))))


class TransactionsTest(SessionTest):
    """Whole transactions, done and refused."""

    def test_a_refused_commit(self):
        self.decide(self.town.told(self.town.tree(), 3000, 1, CREATE))
        for session in (self.one, self.founder):
            self.follow(session)
            session.begin()
            self.assertEqual(self.tell(session, COUNT), ("answer", 0))
            self.assertEqual(self.tell(session, inserts(50, 51)[0]), ("answer", True))
            self.assertEqual(self.tell(session, ROWS), ("answer", ((50,),)))
        words = [self.one.commit(), self.founder.commit()]
        for word in words:
            self.decide(word)
        for session in (self.one, self.founder):
            self.follow(session)
        self.assertEqual(self.one.hear(self.ask(2000, ("outcome?", 2000))), ("outcome", ("done",), 3))
        found = self.founder.hear(self.ask(FOUNDER, ("outcome?", FOUNDER)))
        self.assertEqual(found, ("outcome", ("refused", 0, ("answer", 1)), 3))
        self.founder.begin()
        self.assertEqual(self.tell(self.founder, ROWS), ("answer", ((50,),)))
        self.assertEqual(self.founder.commit()[2][2], 2)

    def test_each_house_can_answer(self):
        self.grow()
        self.follow()
        self.one.begin()
        for owner in self.owners:
            self.assertEqual(self.tell(self.one, COUNT, owner), ("answer", 9))

    def test_the_founder_replaces_an_owner(self):
        for session, answer in [(self.one, ("problem", ("founder",))), (self.founder, ("answer", True))]:
            session.begin()
            self.assertEqual(self.tell(session, ("replace", 0, 15)), answer)
        self.decide(self.founder.commit())
        self.follow(self.founder)
        self.assertEqual(self.founder.hear(self.ask(FOUNDER, ("outcome?", FOUNDER))), ("outcome", ("done",), 1))
        self.assertEqual(self.houses[12].head()[0][5], (15, 12, 13, 14))


if __name__ == "__main__":
    unittest.main()
