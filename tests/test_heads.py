import unittest

from test_names import STRANGE, nested
from towns import OWNERS, Town
from trothbase.heads import is_certificate, is_header, judged_heads, quorum

HEADER = ("header", 3, 5, 8, 9, (11, 12, 13, 14))
NO_COUNTS = [-1, -(10 ** 59), True, False, None, "", "1", (), (1,), 10 ** 60]
NO_OWNERS = [
    (), (11,), (11, 12, 13), (11, 12, 13, 14, 15), tuple(range(1, 7)), tuple(range(1, 9)), tuple(range(1, 10)),
    tuple(range(1, 12)), (11, 12, 13, 11), (11, 11, 12, 13), (0, 12, 13, 14), (11, 12, 13, 1000), (-1, 12, 13, 14),
    (True, 12, 13, 14), (11, 12, 13, "14"), (11, 12, None, 14), (11, 12, 13, (14,)), (1, 2, 3, 4, 5, 6, 6),
    None, True, 4, "abcd", "",
]
ANYTHING = [None, True, False, 0, 1, -1, "", "header", (), ((),), (1, 2), ("a", "b"), nested(30), nested(31), 10 ** 60]


def with_part(whole, at, part):
    return (*whole[:at], part, *whole[at + 1:])


def other_lengths(whole):
    """The tuple without its last part, without its first one, and with one more."""
    return [whole[:-1], whole[1:], (*whole, 0), (*whole, None), (*whole, ()), whole + whole, (whole,), list(whole)]


class HeaderTest(unittest.TestCase):
    def check(self, right, *values):
        for value in values:
            self.assertIs(is_header(value), right, value)

    def test_headers(self):
        self.check(True, HEADER, ("header", 0, 0, 0, 0, (1, 2, 3, 4)))
        for owners in [*OWNERS.values(), (999, 1, 2, 3), tuple(range(1, 8)), tuple(range(990, 1000))]:
            self.check(True, with_part(HEADER, 5, owners))

    def test_numbers(self):
        for at in range(1, 5):
            self.check(True, *[with_part(HEADER, at, number) for number in [0, 1, 7, 10 ** 59, 10 ** 60 - 1]])
            self.check(False, *[with_part(HEADER, at, wrong) for wrong in NO_COUNTS])

    def test_owners(self):
        self.check(False, *[with_part(HEADER, 5, wrong) for wrong in NO_OWNERS])
        self.check(False, with_part(HEADER, 5, [11, 12, 13, 14]))

    def test_other_forms(self):
        self.check(False, *other_lengths(HEADER), *ANYTHING, *STRANGE)
        for word in ["", "Header", "headers", None, 0, ("header",)]:
            self.check(False, with_part(HEADER, 0, word))
        for at in range(6):
            self.check(False, *[with_part(HEADER, at, strange) for strange in STRANGE])


class QuorumTest(unittest.TestCase):
    def test_quorum(self):
        self.assertEqual([quorum(OWNERS[many]) for many in (4, 7, 10)], [3, 5, 7])


class CertificateTest(unittest.TestCase):
    def setUp(self):
        self.town = Town()
        self.header = HEADER
        self.name = self.town.registry.name(HEADER)

    def is_certificate(self, value, header=HEADER, owners=HEADER[5]):
        return is_certificate(self.town.registry, value, header, owners)

    def check(self, right, *values):
        for value in values:
            self.assertIs(self.is_certificate(value), right, value)

    def seal_all(self, turn, owners, header=HEADER):
        return self.town.certificate(header, owners, turn)

    def test_certificates(self):
        for turn in [0, 1, 7, 10 ** 59]:
            for owners in [(11, 12, 13), (11, 12, 14), (11, 13, 14), (12, 13, 14), (11, 12, 13, 14)]:
                self.check(True, self.seal_all(turn, owners))

    def test_every_number_of_places(self):
        for many, owners in OWNERS.items():
            town = Town(many)
            header = with_part(HEADER, 5, owners)
            least = {4: 3, 7: 5, 10: 7}[many]
            for signed in range(many + 1):
                certificate = town.certificate(header, sorted(sorted(owners)[:signed]))
                found = is_certificate(town.registry, certificate, header, owners)
                self.assertIs(found, signed >= least, (many, signed))

    def test_the_owners_are_those_that_are_passed(self):
        others = (21, 22, 23, 24)
        certificate = self.seal_all(0, others)
        self.assertIs(self.is_certificate(certificate, owners=others), True)
        self.check(False, certificate)
        mixed = self.seal_all(0, (11, 12, 13, 21))
        self.check(False, mixed)
        self.check(True, ("certificate", 0, (11, 12, 13)))
        self.check(False, ("certificate", 0, (11, 12, 21)))

    def test_what_is_not_sealed(self):
        self.seal_all(2, (11, 12, 13))
        self.check(True, ("certificate", 2, (11, 12, 13)))
        for owners in [(11, 12, 14), (12, 13, 14), (11, 12, 13, 14)]:
            self.check(False, ("certificate", 2, owners))
        for turn in [0, 1, 3]:
            self.check(False, ("certificate", turn, (11, 12, 13)))

    def test_what_is_sealed_otherwise(self):
        self.seal_all(0, (11, 12))
        certificate = ("certificate", 0, (11, 12, 13))
        for body in [
            ("prevote", 3, 0, self.name), ("precommit", 4, 0, self.name), ("precommit", 2, 0, self.name),
            ("precommit", 3, 1, self.name), ("precommit", 3, False, self.name), ("precommit", 3, 0, self.name + 1),
            ("precommit", 3, 0, None), ("precommit", 3, 0, HEADER), ("precommit", 3, 0), ("precommit", 3, 0, self.name, 0),
        ]:
            self.town.seal(13, body)
            self.town.seal(14, ("precommit", 3, 0, self.name))
            self.check(False, certificate)
        self.town.seal(13, ("precommit", 3, 0, self.name))
        self.check(True, certificate)

    def test_another_header(self):
        certificate = self.seal_all(0, (11, 12, 13, 14))
        for at in range(1, 6):
            other = with_part(HEADER, at, (11, 12, 13, 15) if at == 5 else 1)
            self.assertIs(self.is_certificate(certificate, header=other), False)

    def test_rounds(self):
        for turn in [-1, True, False, None, "0", (), (0,), -(10 ** 59), 10 ** 60]:
            self.seal_all(turn, (11, 12, 13, 14))
            self.check(False, ("certificate", turn, (11, 12, 13)))

    def test_owners(self):
        self.seal_all(0, (11, 12, 13, 14, 15, True))
        self.check(True, ("certificate", 0, (11, 12, 13)))
        self.check(
            False, *[("certificate", 0, owners) for owners in [
                (), (11,), (11, 12), (13, 14), (11, 13, 12), (12, 11, 13), (13, 12, 11), (11, 12, 14, 13), (11, 11, 12),
                (11, 12, 12), (11, 12, 13, 13), (11, 11, 12, 13), (11, 12, 15), (11, 12, 13, 15), (True, 11, 12, 13),
                (11, 12, "13"), (11, 12, 13, None), (None, 11, 12, 13), (11, 12, (13,)), (11, 12, 13, (14,)),
                [11, 12, 13], "abc", None, 3, True,
            ]]
        )

    def test_booleans_as_owners(self):
        owners = (1, 2, 3, 4)
        for owner in owners:
            self.town.seal(owner, ("precommit", 3, 0, self.name))
        self.assertIs(self.is_certificate(("certificate", 0, (1, 2, 3)), owners=owners), True)
        self.assertIs(self.is_certificate(("certificate", 0, (True, 2, 3)), owners=owners), False)
        self.town = Town()
        self.seal_all(0, (True, 2, 3))
        self.assertIs(self.is_certificate(("certificate", 0, (True, 2, 3)), owners=owners), False)

    def test_other_forms(self):
        certificate = self.seal_all(0, (11, 12, 13))
        self.check(False, *other_lengths(certificate), *ANYTHING, *STRANGE)
        for word in ["", "Certificate", "head", None, 0, ("certificate",)]:
            self.check(False, with_part(certificate, 0, word))
        for at in range(3):
            self.check(False, *[with_part(certificate, at, strange) for strange in STRANGE])
        self.check(False, *[("certificate", 0, (11, 12, strange)) for strange in STRANGE])


class JudgedTest(unittest.TestCase):
    def setUp(self):
        self.town = Town()
        self.heads = self.town.heads(6)
        self.headers = [self.town.header(), *[header for header, _ in self.heads]]

    def judged(self, heads, height=0):
        """What is taken behind the header of a height."""
        return judged_heads(self.town.registry, self.headers[height], heads)

    def test_all_heads(self):
        for height in range(7):
            for end in range(7):
                found = self.judged(tuple(self.heads[height:end]), height)
                self.assertEqual(found, self.heads[height:end])

    def test_elder_heads_are_passed_over(self):
        for height in range(7):
            for start in range(height):
                self.assertEqual(self.judged(tuple(self.heads[start:]), height), self.heads[height:])
        mixed = (self.heads[2], self.heads[0], self.heads[2], self.heads[1], *self.heads[3:])
        self.assertEqual(self.judged(mixed, 3), self.heads[3:])

    def test_elder_heads_need_no_certificate(self):
        fake = ("header", 1, 7, 7, 7, (1, 2, 3, 4))
        for other in [None, (), "x", ("certificate", 0, ()), self.heads[0][1]]:
            self.assertEqual(self.judged(((fake, other), *self.heads[2:]), 2), self.heads[2:])
            self.assertEqual(self.judged((((with_part(fake, 1, 0)), other), *self.heads), 0), self.heads)

    def test_what_is_no_elder_head_ends_taking(self):
        fake = ("header", 1, 7, 7, 7, (1, 2, 3, 4))
        for wrong in [
            (), fake, (fake,), (fake, None, None), (with_part(fake, 2, -1), None), (with_part(fake, 1, True), None),
            (with_part(fake, 5, (1, 2, 3)), None), None, 1, "ab", (None, None), (1, 1), (with_part(fake, 1, 3), None),
            (with_part(fake, 1, 4), self.heads[3][1]),
        ]:
            self.assertEqual(self.judged((wrong, *self.heads[2:]), 2), [], wrong)
            self.assertEqual(self.judged((self.heads[0], wrong, *self.heads[2:]), 2), [], wrong)

    def test_elder_heads_behind_the_first_that_is_taken(self):
        for elder in self.heads[:3]:
            found = self.judged((self.heads[2], elder, *self.heads[3:]), 2)
            self.assertEqual(found, self.heads[2:3])

    def test_gaps_and_other_orders(self):
        self.assertEqual(self.judged(tuple(self.heads[1:])), [])
        self.assertEqual(self.judged((*self.heads[:2], *self.heads[3:])), self.heads[:2])
        self.assertEqual(self.judged(tuple(self.heads[::-1])), [])
        self.assertEqual(self.judged((self.heads[0], self.heads[0], *self.heads[1:])), self.heads[:1])

    def test_chains_that_are_spoilt_at_any_place(self):
        for at in range(6):
            header, certificate = self.heads[at]
            for wrong in self.spoilt(header, certificate):
                heads = with_part(tuple(self.heads), at, wrong)
                self.assertEqual(self.judged(heads), self.heads[:at], (at, wrong))
                if at > 0:
                    self.assertEqual(self.judged(heads, 1), self.heads[1:at], (at, wrong))

    def spoilt(self, header, certificate):
        """What is no head of the next height; the headers are certified all the same."""
        others = [with_part(header, at, header[at] + 1) for at in (1, 2)]
        others += [with_part(header, 2, 0), with_part(header, 3, -1), with_part(header, 5, (11, 12, 13))]
        if header[1] != 1:
            others.append(with_part(header, 2, self.headers[0][2]))
        found = [(other, self.town.certificate(other, (11, 12, 13))) for other in others if is_header(other)]
        found += [(other, certificate) for other in others]
        found += [(header, wrong) for wrong in [
            None, (), ("certificate", 0, ()), ("certificate", 0, (11, 12)), ("certificate", 1, (11, 12, 13)),
            ("certificate", False, (11, 12, 13)), ("certificate", 0, (11, 12, 15)), header, (*certificate, None),
        ]]
        found += [(header,), (header, certificate, certificate), header, certificate, (certificate, header), None, 0, "hc"]
        return found

    def test_a_false_previous(self):
        header, _ = self.heads[0]
        false = with_part(header, 2, self.headers[0][4] + 100)
        heads = ((false, self.town.certificate(false, (11, 12, 13))),)
        self.assertEqual(self.judged(heads), [])

    def test_other_roots_and_blocks_can_be_certified(self):
        header, _ = self.heads[0]
        other = with_part(with_part(header, 3, 77), 4, 78)
        head = (other, self.town.certificate(other, (11, 12, 13)))
        self.assertEqual(self.judged((head, *self.heads[1:])), [head])

    def test_certificates_by_the_owners_of_another_height(self):
        old, new = (11, 12, 13, 14), (11, 15, 16, 17)
        first = with_part(self.heads[0][0], 5, new)
        second = ("header", 2, self.town.registry.name(first), 0, 0, new)
        for signed, behind in [((12, 13, 14), (11, 15, 16)), ((11, 12, 13), (15, 16, 17))]:
            right = (first, self.town.certificate(first, signed))
            last = (second, self.town.certificate(second, behind))
            self.assertEqual(self.judged((right, last)), [right, last])
            late = (second, self.town.certificate(second, signed))
            self.assertEqual(self.judged((right, late)), [right])
            early = (first, self.town.certificate(first, behind))
            self.assertEqual(self.judged((early, last)), [])
            self.assertEqual(judged_heads(self.town.registry, first, (last,)), [last])
        self.assertEqual(old, self.headers[0][5])

    def test_different_certificates_for_one_header(self):
        header, _ = self.heads[0]
        for turn, owners in [(0, (11, 12, 14)), (5, (12, 13, 14)), (1, (11, 12, 13, 14))]:
            head = (header, self.town.certificate(header, owners, turn))
            self.assertEqual(self.judged((head, *self.heads[1:])), [head, *self.heads[1:]])

    def test_seven_and_ten_places(self):
        for many in (7, 10):
            town = Town(many)
            heads = town.heads(3)
            self.assertEqual(judged_heads(town.registry, town.header(), tuple(heads)), heads)
            header, _ = heads[1]
            few = (header, town.certificate(header, sorted(town.owners)[:quorum(town.owners) - 1]))
            self.assertEqual(judged_heads(town.registry, town.header(), (heads[0], few, heads[2])), heads[:1])

    def test_values_that_are_no_tuples_of_heads(self):
        for value in [*ANYTHING, *STRANGE, self.heads, list(self.heads), self.heads[0], self.heads[0][0], "heads"]:
            self.assertEqual(self.judged(value), [], value)
        for strange in STRANGE:
            self.assertEqual(self.judged((strange, *self.heads)), [])
            self.assertEqual(self.judged((*self.heads, strange)), [])
            self.assertEqual(self.judged((*self.heads, (self.heads[0][0], (1, (strange,))))), [])
        self.assertEqual(self.judged((*self.heads, nested(29))), self.heads)
        self.assertEqual(self.judged((*self.heads, nested(30))), [])

    def test_the_list_is_a_new_one(self):
        heads = tuple(self.heads)
        found = self.judged(heads)
        found.clear()
        self.assertEqual(self.judged(heads), self.heads)
        self.assertEqual(heads, tuple(self.heads))


if __name__ == "__main__":
    unittest.main()
