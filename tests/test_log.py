"""Points [92] to [94] and netkeep/log.py: command lines, checks, logs, their texts, and torn ones."""

import random
import re
import unittest

from netkeep.errors import InvalidNumber
from netkeep.faults import InvalidCommand, InvalidEntries, InvalidEntry, InvalidText
from netkeep.log import Log, bytes_of, check_of, is_command_line
from support import Case, Odd, wrong_values

SIGNS = [chr(place) for place in range(32, 127) if place != 37]
LOG = Log(["put 0 a 1", ("ask", "tie"), "put", ("sum",), "~ !"])
TEXT = LOG.text()
# Of the wrong values these are strings with signs that are command lines.
GOOD = [value for value in wrong_values() if isinstance(value, str) and value in ("x", "A")]
NO_LINES = [value for value in wrong_values() if not (isinstance(value, str) and value in GOOD)] + [
    " ", " a", "a ", "a\n", "a\nb", "\ta", "100" + chr(37), chr(37), "a" * 201, "all", "all 2", "all  x", "all a", b"put",
    ["put"], ("put",), "\x7f", "a\x1f", "\u00e9",
]
NO_ENTRIES = [value for value in NO_LINES if not (isinstance(value, tuple) and value == ("put",))] + [
    (), ("put", ""), ("put", "all"), ("put", ("ask",)), ["put", "ask"], ("put", None), ("put ",), {"put": 1},
]


def slow_check(line):
    """The check, sign by sign, as the point says it."""
    return f"{sum(at * (SIGNS.index(sign) + 1) for at, sign in enumerate(line, 1)) % 997:03}"


def slow_is_line(value):
    return (type(value) is str and 1 <= len(value) <= 200 and set(value) <= set(SIGNS)
            and value.strip(" ") == value and value.split(" ")[0] != "all")


def slow_text(entries):
    lines = [one for entry in entries for one in ([f"all {len(entry)}", *entry] if isinstance(entry, tuple) else [entry])]
    return "".join(f"{line} {slow_check(line)}\n" for line in lines)


def slow_torn(text):
    """The entries of the good beginning: the longest list of entries whose text is a beginning."""
    lines = text.split("\n")[:-1]
    told = [line[:-4] if re.fullmatch(r".* \d\d\d", line) and slow_check(line[:-4]) == line[-3:] else None
            for line in lines] if set(text) <= set(SIGNS + ["\n"]) else None
    entries, at = [], 0
    while at < len(told) and told[at] is not None and len(entries) < 300:
        if slow_is_line(told[at]):
            entries.append(told[at])
            at += 1
            continue
        found = re.fullmatch("all ([1-9][0-9]*)", told[at])
        many = int(found[1]) if found and len(found[1]) < 10 else len(lines)
        some = told[at + 1:at + 1 + many]
        if len(some) != many or not all(one is not None and slow_is_line(one) for one in some):
            break
        entries.append(tuple(some))
        at += 1 + len(some)
    return entries, at


def drawn_line(rng):
    while True:
        line = "".join(rng.choice(SIGNS) for _ in range(rng.choice((1, 2, 5, 30, 200))))
        if slow_is_line(line):
            return line


class Lines(Case):
    def test_ordinary(self):
        for line in ("put", "a", "~", "put 0 a 1", "all2", "allo", "a all", "a  b", "!", "a" * 200, "All 2", "100 000"):
            self.is_bool(True, is_command_line(line))
        for value in NO_LINES:
            self.is_bool(False, is_command_line(value=value))
            self.refuses(InvalidCommand, {"value": value}, check_of, value)

    def test_checks(self):
        self.assertEqual([check_of(line) for line in ("put", "ask", "tie", "sum")], ["502", "456", "437", "484"])
        self.assertEqual(check_of(line="!"), "002")
        self.assertEqual(check_of("~"), "094")
        self.assertEqual([check_of(sign) for sign in SIGNS[1:]], [f"{at:03}" for at in range(2, 95)])
        rng = random.Random(241)
        for _ in range(60):
            line = drawn_line(rng)
            self.assertEqual(check_of(line), slow_check(line))
        self.assertEqual(check_of("~" * 200), f"{94 * 20100 % 997:03}")

    def test_one_sign_otherwise_or_two_exchanged(self):
        rng = random.Random(242)
        for _ in range(20):
            line = drawn_line(rng)
            for _ in range(40):
                at, other = rng.randrange(len(line)), rng.randrange(len(line))
                changed = line[:at] + rng.choice(SIGNS[1:]) + line[at + 1:]
                signs = list(line)
                signs[at], signs[other] = signs[other], signs[at]
                for told in (changed, "".join(signs)):
                    if told != line and slow_is_line(told):
                        self.assertNotEqual(check_of(told), check_of(line))


class Made(Case):
    def test_parts(self):
        log = Log(["put", ("ask", "tie")]) + "sum"
        self.assertEqual(log.entries(), ["put", ("ask", "tie"), "sum"])
        self.assertEqual(log.lines(), ["put", "ask", "tie", "sum"])
        self.assertEqual(log.text(), "put 502\nall 2 539\nask 456\ntie 437\nsum 484\n")
        self.assertEqual(bytes_of(log), b"put 502\nall 2 539\nask 456\ntie 437\nsum 484\n")
        self.assertIs(type(bytes_of(log=log)), bytes)
        self.assertEqual((len(log), len(LOG), len(Log())), (3, 5, 0))
        self.assertEqual(list(log), log.entries())
        self.assertEqual([entry for entry in LOG], LOG.entries())
        self.assertEqual(repr(Log(["put 0 a 1"])), "Log(['put 0 a 1'])")
        self.assertEqual(repr(log), "Log(['put', ('ask', 'tie'), 'sum'])")
        self.assertEqual((repr(Log()), Log().text(), bytes_of(Log()), Log().lines()), ("Log([])", "", b"", []))
        self.assertEqual(Log(entries=("put",)), Log(["put"]))

    def test_copies_and_new_lists(self):
        entries = ["put"]
        log = Log(entries)
        entries.append("ask")
        log.entries().append("ask")
        log.lines().append("ask")
        self.assertEqual((log + "tie").entries(), ["put", "tie"])
        self.assertEqual(log.entries(), ["put"])

    def test_entries_that_are_none(self):
        for value in (None, True, 0, "put", "", {}, {"put": 1}, LOG, Odd(), b"put"):
            self.refuses(InvalidEntries, {"position": None}, Log, value)
        for value in NO_ENTRIES:
            self.refuses(InvalidEntries, {"position": 1}, Log, ["put", value, None])
            self.refuses(InvalidEntries, {"position": 300}, Log, ("put",) * 300 + (value,))
            self.refuses(InvalidEntry, {"value": value}, lambda: LOG + value)
            self.refuses(InvalidEntry, {"value": value}, lambda: Log(["put"] * 300) + value)

    def test_three_hundred_entries_and_more(self):
        full = Log([("put", "ask")] * 300)
        self.assertEqual((len(full), len(full.lines())), (300, 600))
        self.too_many("entries", 300, Log, ["put"] * 301)
        self.too_many("entries", 300, lambda: full + "put")
        self.assertEqual(len(Log(["put"] * 299) + ("ask",)), 300)
        self.assertEqual(Log.read(full.text()), full)

    def test_in(self):
        for line in ("put", "ask", "tie", "sum", "put 0 a 1", "~ !"):
            self.is_bool(True, line in LOG)
        for value in NO_ENTRIES + [("ask", "tie"), "put 0", "as", ("sum",), "all 2", "456"] + GOOD:
            self.is_bool(False, value in LOG)

    def test_equal(self):
        self.assertTrue(LOG == Log(LOG.entries()))
        self.assertFalse(LOG != Log(tuple(LOG)))
        for other in (Log(["put"]), Log(LOG.lines()), LOG.entries(), TEXT, repr(LOG), None, Odd()):
            self.assertFalse(LOG == other)
            self.assertTrue(LOG != other)
        self.assertNotEqual(Log(["put"]), Log([("put",)]))

    def test_first(self):
        for many in range(6):
            self.assertEqual(LOG.first(many).entries(), LOG.entries()[:many])
        self.assertEqual(LOG.first(many=2), Log(["put 0 a 1", ("ask", "tie")]))
        for value in wrong_values() + [6, -1, "1", 10 ** 20]:
            self.refuses(InvalidNumber, {"value": value}, LOG.first, value)

    def test_parted(self):
        for mark, at in (("put 0 a 1", 0), ("ask", 1), ("tie", 1), ("put", 2), ("sum", 3), ("~ !", 4), ("no", 5), ("as", 5)):
            ahead, rest = LOG.parted(mark)
            self.assertEqual((ahead.entries(), rest.entries()), (LOG.entries()[:at], LOG.entries()[at:]))
        self.assertEqual(Log(["a", "b", "a"]).parted(mark="a"), (Log(), Log(["a", "b", "a"])))
        self.assertIs(type(LOG.parted("ask")), tuple)
        for value in NO_LINES + [("ask", "tie")]:
            self.refuses(InvalidCommand, {"value": value}, LOG.parted, value)


class Read(Case):
    def look_at(self, text):
        """The good beginning is that of the slow way, and only whole texts are read; whether this is one."""
        entries, many = slow_torn(text)
        found = Log.torn(text)
        self.assertEqual((found[0].entries(), found[1], type(found)), (entries, many, tuple), text)
        self.assertTrue(text.startswith(found[0].text()))
        self.assertEqual(found[0].text().count("\n"), many)
        if slow_text(entries) == text:
            self.assertEqual(Log.read(text), found[0])
            return True
        with self.assertRaises(InvalidText) as caught:
            Log.read(text)
        self.assertEqual(caught.exception.line, many + 1, text)
        return False

    def test_ordinary(self):
        log = Log(["put", ("ask", "tie"), "sum"])
        self.assertEqual(Log.read(text=log.text()), log)
        self.assertEqual(Log.torn(text=log.text()), (log, 5))
        self.assertEqual(Log.torn(log.text()[:-1]), (Log(["put", ("ask", "tie")]), 4))
        self.assertEqual(Log.torn(log.text()[:20]), (Log(["put"]), 1))
        self.assertEqual((Log.read(""), Log.torn("")), (Log(), (Log(), 0)))
        for text, line in (("\n", 1), ("put 503\n", 1), ("put 502", 1), ("put 502\n\n", 2), ("put 502\nput", 2),
                           ("put 502\nall 2 539\nask 456\n", 2), ("put 502\nall 2 539\nask 456\nsum 485\n", 2),
                           ("put  502\n", 1), (" put 502\n", 1), ("put 502 \n", 1), ("put 0502\n", 1), ("put 02\n", 1)):
            with self.assertRaises(InvalidText) as caught:
                Log.read(text)
            self.assertEqual((caught.exception.line, Log.torn(text)[1]), (line, line - 1))

    def test_no_strings(self):
        for value in wrong_values() + [LOG, [TEXT], TEXT.encode()]:
            if not isinstance(value, str):
                for read in (Log.read, Log.torn):
                    with self.assertRaises(InvalidText) as caught:
                        read(value)
                    self.assertEqual(caught.exception.line, 1)

    def test_texts_of_drawn_logs(self):
        rng = random.Random(243)
        for _ in range(30):
            entries = [rng.choice((drawn_line(rng), tuple(drawn_line(rng) for _ in range(rng.randint(1, 4)))))
                       for _ in range(rng.randint(0, 6))]
            self.assertEqual(Log(entries).text(), slow_text(entries))
            self.assertTrue(self.look_at(slow_text(entries)))

    def test_cut_off_anywhere(self):
        for at in range(len(TEXT) + 1):
            self.look_at(TEXT[:at])
            whole = [many for many in range(6) if len(LOG.first(many).text()) <= at][-1]
            self.assertEqual(Log.torn(TEXT[:at])[0], LOG.first(whole))

    def test_one_sign_otherwise(self):
        for at in range(len(TEXT)):
            for sign in SIGNS + ["\n"]:
                if sign != TEXT[at]:
                    self.assertFalse(self.look_at(TEXT[:at] + sign + TEXT[at + 1:]))
        # With a sign changed in a command there are just the entries ahead of it.
        for many, entry in enumerate(LOG.entries()):
            for line in entry if isinstance(entry, tuple) else (entry,):
                place = len(LOG.first(many).text())
                place = TEXT.index(line + " " + slow_check(line), place)
                for at in range(place, place + len(line)):
                    changed = TEXT[:at] + ("x" if TEXT[at] != "x" else "y") + TEXT[at + 1:]
                    self.assertEqual(Log.torn(changed)[0], LOG.first(many))

    def test_a_sign_more_or_less_and_lines_exchanged(self):
        lines = TEXT.split("\n")[:-1]
        for at in range(len(TEXT)):
            self.look_at(TEXT[:at] + TEXT[at + 1:])
            for sign in " \n0a":
                self.look_at(TEXT[:at] + sign + TEXT[at:])
        for at in range(len(lines)):
            for some in (lines[:at] + lines[at + 1:], lines[:at + 1] + lines[at:], lines[at:] + lines[:at]):
                self.look_at("".join(line + "\n" for line in some))

    def test_lines_with_right_checks_that_are_none(self):
        def checked(*lines):
            return "".join(f"{line} {slow_check(line)}\n" for line in lines)

        for lines in (("all 0",), ("all",), ("all x", "put"), ("all 01", "put"), ("all 1", "all 1", "put"), ("all 1 ", "put"),
                      ("all  1", "put"), ("all 2", "put"), ("all 1",), ("a" * 201,), (" a",), ("a ",), ("all -1", "put"),
                      ("all 1", "a" * 201), ("all 1", " a"), ("all 1x", "put"), ("all 1 1", "put"), ("all " + "9" * 5000, "put"),
                      ("all 1" + "0" * 12000, "put"), ("all 3", "put", "put", "all 1", "put")):
            self.assertFalse(self.look_at("put 502\n" + checked(*lines)))
            self.assertEqual(Log.torn("put 502\n" + checked(*lines)), (Log(["put"]), 1))
        for lines in (("allx",), ("all 1", "put"), ("all 12",) + ("put",) * 12, ("a" * 200,)):
            self.assertTrue(self.look_at(checked(*lines)))
        # A line of four signs or fewer, with or without a check.
        for text in (" 000\n", "000\n", "0\n", "  000\n", " \n"):
            self.assertEqual(Log.torn(text), (Log(), 0))

    def test_more_than_three_hundred_entries(self):
        text = slow_text(["put"] * 300)
        self.assertEqual(len(Log.read(text)), 300)
        for more in (["put"], [("put", "ask")]):
            self.assertEqual(Log.torn(text + slow_text(more)), (Log(["put"] * 300), 300))
            with self.assertRaises(InvalidText) as caught:
                Log.read(text + slow_text(more))
            self.assertEqual(caught.exception.line, 301)
        self.assertEqual(Log.torn(slow_text([("put", "ask")] * 301))[1], 900)


if __name__ == "__main__":
    unittest.main()
