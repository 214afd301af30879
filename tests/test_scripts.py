"""Points 204 to 206: deeds as lines, logs as texts, and scripts."""

import random
import unittest

from lotshown.charter import is_charter, is_deed
from lotshown.errors import LotError, Malformed, TooMuch
from lotshown.lines import words_of
from lotshown.office import Office, office_of
from lotshown.scripts import deed_of_line, line_of_deed, log_of, log_text, run_script
from tests.offices import BROAD, SHARES, SHARES_OF_OCTETS, TURNS, WAYS, any_office, any_salt, any_system, changed

SALT = tuple(range(16))
HEX = "000102030405060708090a0b0c0d0e0f"
SEAL = "00ff12ab"
SIGNS = "abcxyz0123456789-/.,:+=#_ ABF%\n"
TOP = 2 ** 62


def any_deeds(charter, chance):
    """List a deed of each sort."""
    width = 2 * charter[0]

    def seal():
        return "".join(chance.choice("0123456789abcdef") for _ in range(width))

    def value():
        return chance.choice((0, 1, 9, chance.randint(0, TOP), TOP))

    def values(most):
        return tuple(value() for _ in range(chance.randint(0, most)))

    name = "".join(chance.choice("abcz") for _ in range(chance.randint(1, 16)))
    deeds = [
        ("pass", chance.randint(0, 10 ** 9)), ("promise", name, seal()), ("seal",), ("withhold", name), ("draw",),
        ("sell", name, chance.randint(0, 999999), any_system(chance, charter[1]), "named", "bearer"),
        ("sell", name, chance.randint(0, 999999), any_system(chance, charter[1]), "bearer", (seal(), seal())),
        ("reveal", name, value(), any_salt(chance) if charter[6][0] == "turns" else value()),
    ]
    for word, more in (("claim", None), ("take", None), ("yield", None), ("rule", None), ("pass", name), ("show", any_salt(chance)), ("lost", any_salt(chance))):
        deeds.append(("event", chance.randint(0, 10 ** 6), chance.randint(0, 999999), word, name, more))
    if charter[6][0] == "shares":
        deeds.append(("help", name, value(), value(), value()))
        shares = tuple((value(), value(), value()) for _ in range(chance.randint(0, 5)))
        deeds.append(("paper", name, (values(6), values(5), shares), any_salt(chance)))
    return deeds


class Lines(unittest.TestCase):
    def both(self, charter, deed, line):
        self.assertIs(is_deed(charter, deed), True)
        self.assertEqual(line_of_deed(charter, deed), line)
        self.assertEqual(deed_of_line(charter, line), deed)

    def test_each_deed(self):
        for charter in (TURNS, SHARES):
            for deed, line in (
                (("pass", 0), "pass 0"), (("pass", 10 ** 9), "pass 1000000000"), (("seal",), "seal"), (("draw",), "draw"), (("withhold", "pat"), "withhold pat"),
                (("promise", "pat", SEAL), "promise pat " + SEAL),
                (("event", 0, 7, "claim", "ann", None), "event 0 7 claim ann -"), (("event", 10 ** 6, 999999, "rule", "ann", None), "event 1000000 999999 rule ann -"),
                (("event", 3, 0, "take", "ann", None), "event 3 0 take ann -"), (("event", 3, 0, "yield", "ann", None), "event 3 0 yield ann -"),
                (("event", 3, 0, "pass", "ann", "bob"), "event 3 0 pass ann bob"), (("event", 3, 0, "show", "ann", SALT), "event 3 0 show ann " + HEX),
                (("event", 3, 0, "lost", "ann", SALT), "event 3 0 lost ann " + HEX),
                (("sell", "sal", 7, ((1, 2, 5),), "named", "ann"), "sell sal 7 named ann 13"),
                (("sell", "sal", 7, ((1, 2, 5),), "bearer", (SEAL, "00000000")), "sell sal 7 bearer " + SEAL + " 00000000 13"),
            ):
                self.both(charter, deed, line)
        self.both(TURNS, ("reveal", "pat", 9, SALT), "reveal pat 9 " + HEX)
        self.both(SHARES, ("reveal", "pat", 9, TOP), "reveal pat 9 4611686018427387904")
        self.both(SHARES, ("help", "pat", 1, 0, 5), "help pat 1 0 5")
        self.both(SHARES, ("paper", "pat", ((), (), ()), SALT), "paper pat " + HEX)
        self.both(SHARES, ("paper", "pat", ((5, 0), (1, 3), ((1, 2, 3), (0, 0, TOP))), SALT), "paper pat " + HEX + " 5 0 +1 +3 1:2:3 0:0:4611686018427387904")
        self.both(SHARES, ("paper", "pat", ((), (0,), ()), SALT), "paper pat " + HEX + " +0")
        full = ("paper", "a" * 16, ((TOP,) * 6, (TOP,) * 5, ((TOP,) * 3,) * 5), SALT * 2)
        self.assertEqual(len(words_of(line_of_deed(SHARES, full))), 19)
        self.both(SHARES, full, line_of_deed(SHARES, full))

    def test_masks(self):
        system = (tuple(range(1, 101)), (tuple(range(36)), (0,)), ((9,), (0, 9), tuple(range(10))))
        sale = ("sell", "sal", 0, system, "named", "ann")
        self.both(BROAD, sale, "sell sal 0 named ann " + "f" * 25 + " fffffffff/1 200/201/3ff")
        self.both(BROAD, changed(sale, 3, ((1, 50, 100), ((35,), (4, 5)), ((0,),) * 3)), "sell sal 0 named ann 8000000000002000000000001 800000000/30 1/1/1")
        wide = (("figures", 36, 8),)
        charter = changed(changed(TURNS, 1, wide), 2, (((8,),), ((7,),)))
        self.assertIs(is_charter(charter), True)
        sale = ("sell", "sal", 0, ((tuple(range(36)),) * 8,), "named", "ann")
        self.both(charter, sale, "sell sal 0 named ann " + "/".join(["fffffffff"] * 8))

    def test_there_and_back(self):
        chance = random.Random(205)
        for charter in WAYS + (BROAD,):
            for _ in range(25):
                for deed in any_deeds(charter, chance):
                    self.both(charter, deed, line_of_deed(charter, deed))

    def test_a_line_is_that_of_at_most_one_deed(self):
        # Words put in, left out, exchanged and doubled, and signs changed, lead to another deed or to none.
        chance = random.Random(206)
        for charter in WAYS + (BROAD,):
            lines = {}
            for _ in range(12):
                for deed in any_deeds(charter, chance):
                    line = line_of_deed(charter, deed)
                    self.assertIn(lines.setdefault(line, deed), [deed])
                    for wrong in self.changes(line, chance):
                        self.check(charter, line, wrong)

    def changes(self, line, chance):
        at = chance.randrange(len(line))
        for sign in chance.sample(SIGNS, 6):
            yield line[:at] + sign + line[at:]
            yield line[:at] + sign + line[at + 1:]
        yield line[:at] + line[at + 1:]
        yield line[:at] + line[at] + line[at:]
        words = line.split(" ")
        for at in range(len(words)):
            other = chance.randrange(len(words))
            yield " ".join(words[:at] + words[at + 1:])
            yield " ".join(words[:at] + [words[at]] + words[at:])
            yield " ".join(words[:at] + ["-"] + words[at:])
            yield " ".join(words[:at] + ["0" + words[at]] + words[at + 1:])
            yield " ".join(words[:at] + ["+" + words[at]] + words[at + 1:])
            yield " ".join(words[:at] + [words[at].upper()] + words[at + 1:])
            yield " ".join(words[:at] + ["-" + words[at]] + words[at + 1:])
            yield " ".join(words[:at] + [words[other]] + words[at + 1:other] + [words[at]] + words[other + 1:] if at < other else words)
        yield line + " "
        yield " " + line
        yield line.replace(" ", "  ", 1)
        yield line + "\n"

    def check(self, charter, line, wrong):
        try:
            deed = deed_of_line(charter, wrong)
        except Malformed:
            self.assertNotEqual(line, wrong)
            return
        self.assertIs(is_deed(charter, deed), True)
        self.assertEqual(line_of_deed(charter, deed), wrong)

    def test_lines_of_no_deed(self):
        for line in (
            "", "pass", "pass 05", "pass +5", "pass -5", "pass 5 ", " pass 5", "pass  5", "pass 1000000001", "pass five", "pass 5 5", "Pass 5", "pass -0", "pass 5.0",
            "seal 1", "seal -", "draw draw", "promise pat", "promise pat 00FF12AB", "promise pat 00ff12", "promise pat 00ff12abcd", "promise Pat 00ff12ab",
            "promise 00ff12ab pat", "withhold", "withhold pat pat", "withhold -", "reveal pat 9 " + HEX[:30], "reveal pat 9 " + HEX + "0", "reveal pat 09 " + HEX,
            "reveal pat 9 " + HEX.upper(), "reveal pat " + HEX + " 9", "reveal pat 9 5", "reveal pat 9 -", "reveal pat 9 " + "00" * 33, "reveal pat 4611686018427387905 " + HEX,
            "event 0 7 claim ann", "event 0 7 claim ann bob", "event 0 7 claim ann " + HEX, "event 0 7 pass ann -", "event 0 7 show ann -", "event 0 7 show ann bob",
            "event 0 7 lost ann " + HEX[2:], "event 00 7 claim ann -", "event 0 07 claim ann -", "event 1000001 7 claim ann -", "event 0 1000000 claim ann -",
            "event 0 7 win ann -", "event 0 7 claim - -", "event 0 7 claim ann --", "event ann 7 claim 0 -",
            "sell sal 7 named ann", "sell sal 7 named ann 13 13", "sell sal 7 named ann 0", "sell sal 7 named ann 1", "sell sal 7 named ann 013", "sell sal 7 named ann 33",
            "sell sal 7 named ann g3", "sell sal 7 named ann 0x13", "sell sal 7 named ann -13", "sell sal 7 named ann 1A", "sell sal 7 named ann 1/3", "sell sal 7 named ann /13",
            "sell sal 7 bearer ann 13", "sell sal 7 bearer " + SEAL + " 13", "sell sal 7 named " + SEAL + " " + SEAL + " 13", "sell sal 7 other ann 13", "sell sal 7",
            "sell sal 07 named ann 13", "sell sal 1000000 named ann 13", "sell 7 sal named ann 13", "sell sal 7 13 named ann", "sell", "sell sal", "sell sal 7 bearer",
            "help pat 1 2 3", "paper pat " + HEX, "paper pat", "win 5", "-", "#", "#pass 5", "pass\t5", "pass 5\n", "pass 5\npass 6", "a" * 81, " ".join(["pass"] * 21),
        ):
            with self.assertRaises(Malformed, msg=line):
                deed_of_line(TURNS, line)
        for line in (
            "reveal pat 9 " + HEX, "help pat 1 2", "help pat 1 2 3 4", "help pat 01 2 3", "help pat 1:2:3", "paper pat", "paper", "paper " + HEX + " pat", "paper pat " + HEX + " 05",
            "paper pat " + HEX + " +1 5", "paper pat " + HEX + " 1:2:3 +1", "paper pat " + HEX + " 1:2:3 5", "paper pat " + HEX + " 1:2", "paper pat " + HEX + " 1:2:3:4",
            "paper pat " + HEX + " 1:2:", "paper pat " + HEX + " :1:2", "paper pat " + HEX + " 1::3", "paper pat " + HEX + " +01", "paper pat " + HEX + " +", "paper pat " + HEX + " ++1",
            "paper pat " + HEX + " 1:02:3", "paper pat " + HEX + " +1:2:3", "paper pat " + HEX + " 1 1 1 1 1 1 1", "paper pat " + HEX + " +1 +1 +1 +1 +1 +1", "paper pat " + HEX + " -1",
            "paper pat " + HEX + " -", "paper pat " + HEX + " 4611686018427387905", "paper pat " + HEX.upper(), "paper pat " + HEX[1:], "paper pat - 5",
        ):
            with self.assertRaises(Malformed, msg=line):
                deed_of_line(SHARES, line)


class Logs(unittest.TestCase):
    def test_texts(self):
        log = [(0, ("seal",)), (0, ("pass", 5)), (5, ("sell", "sal", 7, ((1, 2, 5),), "named", "ann")), (10 ** 9, ("draw",))]
        text = "0 seal\n0 pass 5\n5 sell sal 7 named ann 13\n1000000000 draw\n"
        self.assertEqual(log_text(TURNS, log), text)
        self.assertEqual(log_of(TURNS, text), log)
        self.assertEqual(log_text(TURNS, []), "")
        self.assertEqual(log_of(TURNS, ""), [])
        # Of any pairs: the times need not ascend.
        log.reverse()
        self.assertEqual(log_of(TURNS, log_text(TURNS, log)), log)
        self.assertEqual(len(log), 4)

    def test_there_and_back(self):
        chance = random.Random(207)
        for charter in WAYS:
            log = any_office(charter, chance, 2).log()
            self.assertEqual(log_of(charter, log_text(charter, log)), log)
            more = [(chance.randint(0, 10 ** 9), deed) for _ in range(100) for deed in any_deeds(charter, chance)]
            text = log_text(charter, more)
            self.assertGreater(len(text), 60000)
            self.assertEqual(log_of(charter, text), more)

    def test_no_logs(self):
        for text in ("\n", "0 seal", "0 seal\n\n", "\n0 seal\n", "0 seal\n0 draw", "00 seal\n", "+0 seal\n", "-1 seal\n", "1000000001 seal\n", "seal\n", "0\n", "0  seal\n", " 0 seal\n",
                     "0 seal \n", "0 Seal\n", "0 seal\n#\n", "# 0 seal\n", "0 seal\r\n", "0 pass 05\n", "x seal\n", "0 0 seal\n", "0.0 seal\n", " seal\n", "0 seal\n5"):
            with self.assertRaises(Malformed, msg=text):
                log_of(TURNS, text)


class Scripts(unittest.TestCase):
    def test_answers(self):
        office = Office(TURNS)
        text = "\n".join([
            "# a remark", "pass 5", "pass 5", "#", "pass 05", "promise nobody " + SEAL, "promise pat " + SEAL, "promise pat " + SEAL, "", "Sell", "pass  6", " pass 6", "x" * 81,
            "sell sal 7 named ann 13", "sell sal 7 named ann 13", "event 0 7 claim ann -", "win 5", "seal", "#end",
        ]) + "\n"
        self.assertEqual(run_script(office, text), [
            (2, "done"), (3, "range"), (5, "form"), (6, "none"), (7, "done"), (8, "refused"), (9, "bad"), (10, "bad"), (11, "bad"), (12, "bad"), (13, "bad"), (14, "done"),
            (15, "refused"), (16, "none"), (17, "form"), (18, "done"),
        ])
        self.assertEqual(office.log(), [(0, ("pass", 5)), (5, ("promise", "pat", SEAL)), (5, ("sell", "sal", 7, ((1, 2, 5),), "named", "ann")), (5, ("seal",))])
        self.assertEqual(office.current(), (0, "drawing"))
        # No line feed is needed at the end, and the office goes on from where it is.
        self.assertEqual(run_script(office, "pass 6\npass 7"), [(1, "done"), (2, "done")])
        self.assertEqual(office.time(), 7)
        self.assertEqual(run_script(office, ""), [])
        self.assertEqual(run_script(office, "#\n#"), [])

    def test_too_much(self):
        office = Office(BROAD)
        # With 3 integers of 100, more than 5000 picks.
        self.assertEqual(run_script(office, "sell sal 7 named ann " + "f" * 25 + " 1/1 1/1/1\n"), [(1, "much")])
        self.assertEqual(office.log(), [])
        office = Office(TURNS)
        rows = ["pass " + str(at) for at in range(1, 60)]
        text = "\n".join(rows) + "\n"
        text = text + "#" * (100000 - len(text))
        self.assertEqual(len(text), 100000)
        with self.assertRaises(TooMuch):
            run_script(office, text + "#")
        self.assertEqual(office.log(), [])
        self.assertEqual(run_script(office, text), [(at, "done") for at in range(1, 60)])

    def test_the_rows_of_a_log(self):
        chance = random.Random(208)
        for charter in WAYS:
            office = any_office(charter, chance, 2)
            text = "".join(line_of_deed(charter, deed) + "\n" for _, deed in office.log())
            other = Office(charter)
            self.assertEqual(run_script(other, text), [(at + 1, "done") for at in range(len(office.log()))])
            self.assertEqual(other.publications(), office.publications())
            self.assertEqual(log_text(charter, other.log()), log_text(charter, office.log()))
            again = office_of(charter, log_of(charter, log_text(charter, office.log())))
            self.assertEqual(again.publications(), office.publications())

    def test_answers_are_those_of_do(self):
        chance = random.Random(209)
        words = {"OutOfRange": "range", "Malformed": "form", "NotThere": "none", "Refused": "refused", "TooMuch": "much"}
        for charter in (TURNS, SHARES, SHARES_OF_OCTETS):
            office, other = any_office(charter, chance, 1), None
            other = office_of(charter, office.log())
            for _ in range(4):
                for deed in any_deeds(charter, chance):
                    if deed[0] == "pass":
                        continue
                    try:
                        office.do(deed)
                        answer = "done"
                    except LotError as error:
                        answer = words[error.__class__.__name__]
                    self.assertEqual(run_script(other, line_of_deed(charter, deed) + "\n"), [(1, answer)])
            self.assertEqual(office.log(), other.log())


if __name__ == "__main__":
    unittest.main()
