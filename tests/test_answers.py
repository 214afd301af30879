"""Points 200 and 201: certificates, and whether they hold."""

import random
import unittest

from lotshown.answers import certify
from lotshown.audit import entry_of, fault, sale_of, settled
from lotshown.books import absence_inputs
from lotshown.digest import is_coincidence
from lotshown.errors import Malformed, NotThere
from lotshown.groves import coincidence, inputs, paper
from lotshown.judge import holds
from lotshown.octets import of_number
from lotshown.office import Office
from tests.kinds import ODD_VALUES
from tests.offices import SHARES, TURNS, WAYS, any_office, changed, parties_of

NUMBERS = (0, 3, 7, 8, 255, 256, 258, 999)


def sale(number, system=((1, 2, 5),), holder="ann"):
    return ("sell", "tom" if 50 <= number < 60 else "sal", number, system, "named", holder)


def made_office(charter=TURNS, rounds=((7,), NUMBERS, ())):
    office = Office(charter)
    for at, numbers in enumerate(rounds):
        party = parties_of(charter, at, random.Random(at), (at + 1, 0, 0))[0]
        office.do(party.promise())
        for number in numbers:
            office.do(sale(number, ((1, 2, 5),) if number % 2 else ((2, 3),)))
        office.do(("seal",))
        office.do(party.reveal())
        office.do(("draw",))
    return office


class Case(unittest.TestCase):
    def setUp(self):
        self.charter = TURNS
        self.publications = made_office().publications()
        self.bulletins = [bulletin for bulletin, _ in self.publications]

    def ask(self, *question):
        return certify(self.charter, self.publications, question)

    def holds(self, certificate):
        found = holds(self.charter, self.bulletins, certificate)
        self.assertIsInstance(found, bool)
        return found


class Certificates(Case):
    def test_sold_and_unsold(self):
        for at, numbers in enumerate(((7,), NUMBERS, ())):
            book = self.publications[at][1]
            for number in sorted(NUMBERS + (1, 2, 4, 6, 9, 254, 257, 259, 998, 1000, 65536 + 7, 999999)):
                sold, unsold, prize = self.ask("sold", at, number), self.ask("unsold", at, number), self.ask("prize", at, number)
                if number in numbers:
                    place = numbers.index(number)
                    self.assertIsNone(unsold)
                    self.assertEqual(sold, (("sold", at, number), book[place], (place, paper(4, book, place))))
                    self.assertEqual(sale_of(TURNS, sold[1])[2], number)
                    money = settled(TURNS, self.publications)[at][1][place][2]
                    self.assertEqual(prize, (("prize", at, number), money, (book[place], place, paper(4, book, place))))
                    self.assertIs(self.holds(sold), True)
                    self.assertIs(self.holds(prize), True)
                else:
                    self.assertIsNone(sold)
                    self.assertIsNone(prize)
                    self.assertEqual(unsold[:2], (("unsold", at, number), True))
                    self.assertEqual(unsold[2][0], len([other for other in numbers if other < number]))
                    self.assertIs(self.holds(unsold), True)

    def test_drawn(self):
        for at in range(3):
            drawn = settled(TURNS, self.publications)[at][0]
            self.assertEqual(self.ask("drawn", at), (("drawn", at), drawn, None))
            self.assertIs(self.holds(self.ask("drawn", at)), True)

    def test_questions_that_are_none(self):
        for value in ODD_VALUES + (
            (), ("sold",), ("sold", 0), ("sold", 0, 7, 1), ("Sold", 0, 7), ("win", 0, 7), ("drawn",), ("drawn", 0, 7), ("unsold", 0), ("prize", 0), ["sold", 0, 7], ("sold", "0", 7),
            ("sold", -1, 7), ("sold", True, 7), ("sold", False, 7), ("sold", 10 ** 6 + 1, 7), ("sold", 0, -1), ("sold", 0, 10 ** 6), ("sold", 0, True), ("sold", 0, None), ("sold", 0, "7"),
            ("drawn", -1), ("drawn", True), ("drawn", None), ("drawn", 10 ** 6 + 1), ("drawn", "0"), (None, 0, 7), (("sold",), 0, 7), ("sold", 0.0, 7), ("sold", 0, 7.0),
        ):
            with self.assertRaises(Malformed):
                certify(self.charter, self.publications, value)
            self.assertIs(self.holds((value, None, None)), False)

    def test_rounds_that_are_not_published(self):
        for question in (("sold", 3, 7), ("unsold", 3, 7), ("prize", 3, 7), ("drawn", 3), ("drawn", 10 ** 6), ("sold", 10 ** 6, 999999)):
            with self.assertRaises(NotThere):
                certify(self.charter, self.publications, question)
            with self.assertRaises(NotThere):
                certify(self.charter, [], changed(question, 1, 0))
            self.assertIs(self.holds((question, True, None)), False)
        for certificate in (self.ask("sold", 1, 7), self.ask("unsold", 1, 9), self.ask("prize", 1, 7), self.ask("drawn", 1)):
            self.assertIs(holds(self.charter, self.bulletins[:1], certificate), False)
            self.assertIs(holds(self.charter, self.bulletins[:2], certificate), True)
            self.assertIs(holds(self.charter, [], certificate), False)

    def test_both_ways_of_drawing(self):
        chance = random.Random(200)
        for charter in WAYS:
            office = any_office(charter, chance, 2, None, 6)
            publications = office.publications()
            bulletins = [bulletin for bulletin, _ in publications]
            for at in range(2):
                sold = {row[0]: row for row in settled(charter, publications)[at][1]}
                for number in sorted(set(sold) | {0, 1, 51, 65, 89, 999999}):
                    for word in ("sold", "unsold", "prize"):
                        certificate = certify(charter, publications, (word, at, number))
                        self.assertEqual(certificate is None, (number in sold) == (word == "unsold"))
                        if certificate is not None:
                            self.assertIs(holds(charter, bulletins, certificate), True)
                        if certificate is not None and word == "prize":
                            self.assertEqual(certificate[1], office.prize(at, number))
                certificate = certify(charter, publications, ("drawn", at))
                self.assertIs(holds(charter, bulletins, certificate), True)

    def test_nothing_handed_in_is_changed(self):
        before = list(self.publications)
        self.ask("sold", 1, 7)
        self.ask("unsold", 1, 9)
        bulletins = list(self.bulletins)
        self.holds(self.ask("prize", 1, 7))
        self.assertEqual((self.publications, self.bulletins), (before, bulletins))


class Judge(Case):
    def wrong(self, certificate):
        self.assertIs(self.holds(certificate), False, certificate)

    def test_other_kinds(self):
        certificates = (self.ask("sold", 1, 7), self.ask("unsold", 1, 9), self.ask("prize", 1, 7), self.ask("drawn", 1))
        for value in ODD_VALUES:
            self.wrong(value)
            for certificate in certificates:
                self.wrong(changed(certificate, 0, value))
                if value is not True or certificate[0][0] != "unsold":
                    self.wrong(changed(certificate, 1, value))
                if value is not None or certificate[0][0] != "drawn":
                    self.wrong(changed(certificate, 2, value))
        for certificate in certificates:
            self.wrong(list(certificate))
            self.wrong(certificate[:2])
            self.wrong(certificate + (None,))
            self.wrong(changed(certificate, 0, list(certificate[0])))
            self.wrong(changed(certificate, 0, changed(certificate[0], 1, 0)))
            self.wrong(changed(certificate, 0, changed(certificate[0], 1, 2)))
            self.wrong(changed(certificate, 0, changed(certificate[0], 0, "win")))

    def test_sold(self):
        book = self.publications[1][1]
        question, entry, (place, shown) = self.ask("sold", 1, 7)
        self.assertEqual((place, len(shown)), (2, 3))
        for other in (3, 8, 9, 6):
            self.wrong((("sold", 1, other), entry, (place, shown)))
        for number in (3, 8, 256):
            at = NUMBERS.index(number)
            self.wrong((question, book[at], (place, shown)))
            self.wrong((question, book[at], (at, paper(4, book, at))))
        for wrong in (entry[:-1], entry + (48,), list(entry), changed(entry, 7, 8), changed(entry, 20, 98), entry_of(TURNS, sale(7, ((1, 2),))), entry[:8], ()):
            self.wrong((question, wrong, (place, shown)))
        for at in (0, 1, 3, 7, 8, -1, True, None, "2", 2.0):
            self.wrong((question, entry, (at, shown)))
        for wrong in (shown[:2], shown + shown[:1], shown[::-1], list(shown), changed(shown, 0, shown[1]), changed(shown, 1, "00000000"), changed(shown, 2, None), ()):
            self.wrong((question, entry, (place, wrong)))
        for wrong in ([place, shown], (place,), (place, shown, 1), shown, None, (shown, place), (entry, place, shown)):
            self.wrong((question, entry, wrong))
        self.wrong((question, True, self.ask("unsold", 1, 6)[2]))
        # In another round the same ticket stands at another place.
        self.assertEqual(self.ask("sold", 0, 7), (("sold", 0, 7), entry, (0, ())))
        self.wrong((("sold", 2, 7), entry, (0, ())))
        self.wrong((question, entry, (0, ())))

    def test_unsold(self):
        for number in (1, 9, 257, 1000):
            question, answer, (place, left, right) = self.ask("unsold", 1, number)
            self.assertIs(answer, True)
            for wrong in (1, False, None, "True", (), 1.0):
                self.wrong((question, wrong, (place, left, right)))
            for other in NUMBERS:
                self.wrong((("unsold", 1, other), True, (place, left, right)))
            for wrong in ((place + 1, left, right), (place - 1, left, right), (place, right, left), (place, left), [place, left, right], (place, left, right, None), None, (place, None, None),
                          (True, left, right), (None, left, right)):
                self.wrong((question, True, wrong))
            for at, side in ((1, left), (2, right)):
                if side is not None:
                    self.assertEqual(len(side[1]), 3)
                    for wrong in (None, list(side), side[:1], side + (1,), (side[0][:-1], side[1]), (side[0], side[1][:2]), (side[0], side[1][::-1]), (side[0], list(side[1])), ((), side[1])):
                        self.wrong((question, True, changed((place, left, right), at, wrong)))
        # Of other numbers between the same neighbours it tells as much.
        self.assertIs(self.holds((("unsold", 1, 10),) + self.ask("unsold", 1, 9)[1:]), True)
        self.assertIs(self.holds((("unsold", 2, 10), True, (0, None, None))), True)
        self.wrong((("unsold", 2, 10), True, (0, None, None, None)))
        self.wrong((("unsold", 1, 10), True, (0, None, None)))

    def test_numbers_whose_octets_begin_alike(self):
        # An entry behind the octets of its own number is greater, so it would pass for a right neighbour.
        book = self.publications[1][1]
        for place, number in enumerate(NUMBERS):
            octets = of_number(number, 8)
            self.assertLess(octets, book[place])
            left = None if place == 0 else (book[place - 1], paper(4, book, place - 1))
            self.wrong((("unsold", 1, number), True, (place, left, (book[place], paper(4, book, place)))))
            after = None if place == 7 else (book[place + 1], paper(4, book, place + 1))
            self.wrong((("unsold", 1, number), True, (place + 1, (book[place], paper(4, book, place)), after)))
        for number in (1, 257, 259, 65536 + 256):
            self.assertIs(self.holds(self.ask("unsold", 1, number)), True)

    def test_prizes(self):
        for number in (7, 8, 999):
            question, money, (entry, place, shown) = self.ask("prize", 1, number)
            self.assertEqual(money, settled(TURNS, self.publications)[1][1][place][2])
            for wrong in (money + 1, money - 1, -money - 1, None, True, False, str(money), float(money), (money,)):
                self.wrong((question, wrong, (entry, place, shown)))
            self.wrong((changed(question, 2, 3), money, (entry, place, shown)))
            other = entry_of(TURNS, sale(number, ((1, 2),)))
            for wrong in ((other, place, shown), (entry, place + 1, shown), (entry, place, shown[:2]), (place, shown), [entry, place, shown], (entry, place, shown, 1), (entry, (place, shown)),
                          (list(entry), place, shown), (None, place, shown), (entry, None, shown), (entry, place, None), None):
                self.wrong((question, money, wrong))
        self.assertTrue(any(self.ask("prize", 1, number)[1] > 0 for number in NUMBERS))
        self.assertTrue(any(self.ask("prize", 1, number)[1] == 0 for number in NUMBERS))

    def test_a_prize_of_0_is_not_false(self):
        number = [number for number in NUMBERS if self.ask("prize", 1, number)[1] == 0][0]
        certificate = self.ask("prize", 1, number)
        self.assertIs(self.holds(certificate), True)
        self.wrong(changed(certificate, 1, False))

    def test_drawn(self):
        question, drawn, _ = self.ask("drawn", 1)
        self.assertEqual(drawn, ((1, 4),))
        for wrong in (((1, 3),), ((1, 2),), [(1, 4)], ([1, 4],), ((True, 4),), ((4, 1),), (1, 4), None, (), ((1, 4), (1, 4)), ((1.0, 4),)):
            self.wrong((question, wrong, None))
        for wrong in ((), False, 0, (0, ()), "", True):
            self.wrong((question, drawn, wrong))
        self.wrong((("drawn", 0), drawn, None))

    def test_another_charter(self):
        certificate = self.ask("drawn", 1)
        other = changed(TURNS, 6, ("turns", 1, None, 0))
        self.assertIs(holds(other, self.bulletins, certificate), certificate == certify(other, self.publications, ("drawn", 1)))


class SoldAndUnsold(unittest.TestCase):
    def test_a_coincidence_comes_out(self):
        # With seals of one octet, a certificate that a sold number is unsold can be searched for.
        charter = changed(TURNS, 0, 1)
        chance = random.Random(201)
        office = made_office(charter, ((3, 7, 20, 30),))
        publications = office.publications()
        (bulletin, book), = publications
        self.assertIsNone(fault(charter, publications))
        sold = certify(charter, publications, ("sold", 0, 7))
        fine = certify(charter, publications, ("unsold", 0, 8))
        found = 0
        while found < 3:
            # Another ticket is to pass for the one at the place 1, so that 7 seems to be absent.
            holder = "".join(chance.choice("abcde") for _ in range(8))
            fake = entry_of(charter, sale(chance.choice((4, 5, 6)), ((1, 2),), holder))
            left, right = (fake, paper(1, book, 1)), (book[2], paper(1, book, 2))
            unsold = (("unsold", 0, 7), True, (2, left, right))
            if holds(charter, [bulletin], unsold):
                found += 1
                self.assertIs(holds(charter, [bulletin], sold), True)
                rows = inputs(1, 4, sold[2][0], sold[1], sold[2][1]) + absence_inputs(1, 4, of_number(7, 8), unsold[2])
                self.assertIs(is_coincidence(1, coincidence(1, rows)), True)
        self.assertIs(holds(charter, [bulletin], fine), True)
        self.assertIsNone(certify(charter, publications, ("unsold", 0, 7)))

    def test_no_book_is_needed(self):
        # Nothing but the bulletins is handed in, and of these only the one of the round counts.
        charter = SHARES
        office = any_office(charter, random.Random(7), 3, None, 6)
        publications = office.publications()
        bulletins = [bulletin for bulletin, _ in publications]
        for at in range(3):
            for number in range(60):
                for word in ("sold", "unsold", "prize"):
                    certificate = certify(charter, publications, (word, at, number))
                    if certificate is not None:
                        others = [bulletin if place == at else None for place, bulletin in enumerate(bulletins)]
                        self.assertIs(holds(charter, others, certificate), True)


if __name__ == "__main__":
    unittest.main()
