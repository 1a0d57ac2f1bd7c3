"""Points [95] and [96] and netkeep/net.py: nets, their commands, logs, trials, rights and secrets."""

import copy
import random
import unittest

from netkeep import errors, faults
from netkeep.code import run, run_kept
from netkeep.errors import InvalidStore, InvalidTelling, TooMany
from netkeep.faults import CommandFailed, InvalidCommand, InvalidEntries, InvalidText, NotGranted, UnknownReader
from netkeep.filled import obeys, wanted
from netkeep.filling import put_in_sequence
from netkeep.loads import code_of_plan, is_sure
from netkeep.log import Log
from netkeep.lots import Lot, kept_of
from netkeep.net import Net, Trial, tried
from netkeep.plans import is_settled
from netkeep.registers import code_of
from netkeep.sayings import Saying, said
from netkeep.store import Store
from netkeep.upkeep import kept_letters
from netted import TREES, Refused, SlowNet, slow_answer, slow_text, some_command
from support import Case, Odd, Same, some_store, wrong_values

PATH = Store(3, [(0, "a", 1), (1, "b", 2)])
FULL = Store(20, [(x, "f", y) for x in range(20) for y in range(20)])
NO_COMMANDS = wrong_values() + [
    "put", "put 0 a", "put 0 a 1 2", "put 0 g 1", "put 0 A 1", "put 00 a 1", "put 0 a 01", "put -1 a 1", "put +1 a 1",
    "put  0 a 1", "put 0 a 1 ", " put 0 a 1", "put 0  a 1", "Put 0 a 1", "put a 0 1", "put 0 ab 1", "put 0 a 1\n",
    "strike 0 a", "strike 0 a b", "fill 1", "fill ", "rule ab", "rule ab cd", "rule aB c", "rule ab c d", "rule g a",
    "unrule ab", "unrule ab C", "keep", "keep g", "keep a b", "keep " + "a" * 13, "keep A", "drop", "drop a b", "refresh 1",
    "grant ann", "grant a b c", "grant Ann a", "grant annannann a", "grant ann A", "grant an1 a", "revoke ann", "hide",
    "hide a b", "show", "show g", "undo 1", "redo 1", "redo undo", "ask ann", "ask a", "ask ann a b", "told", "told a b",
    "say", "say ab", "say (a then b", "say a b", "say (a  then b)", "say g", "say all", "wanted a", "up a", "late 0",
    "all 2", "all", "sum", "puts 0 a 1", ("put", 0, "a", 1), ["late"], ("late",), b"late", "late\n", "late late",
    "say " + "(again " * 40 + "a" + ")" * 40,
]


def parts_of(net):
    """All that can be seen of a net, as the slow one shows it."""
    return {
        "ties": net.store.ties(), "rules": net.rules(), "words": net.lot.words(), "tables": net.tables(),
        "late": net.late, "readers": {name: lot.words() for name, lot in net.readers().items()},
        "secrets": net.secrets(), "changes": net.changes, "log": net.log().entries(),
    }


class NetCase(Case):
    def fails(self, kind, value, call, *args):
        """The call raises just this error, with an equal attribute."""
        cls = getattr(faults, kind, None) or getattr(errors, kind)
        with self.assertRaises(cls) as caught:
            call(*args)
        self.assertIs(type(caught.exception), cls)
        if kind == "TooMany" and value is not None:
            self.assertEqual((caught.exception.what, caught.exception.limit), value)
        elif value is not None:
            told = getattr(caught.exception, "position" if kind == "CommandFailed" else "value")
            self.assertEqual((told, type(told)), (value, type(value)))
        return caught.exception

    def refused(self, net, command, kind, value=None):
        """The net refuses the command, by do, as it is called, and together with others; all stays as it was."""
        before, other = parts_of(net), net.copy()
        for call in (net.do, net):
            self.fails(kind, value, call, command)
        error = self.fails("CommandFailed", 1, net.do_all, "late", command, "up")
        self.assertEqual(type(error.__cause__).__name__, kind)
        self.assertEqual(parts_of(net), before)
        self.assertEqual(net, other)


class Made(NetCase):
    def test_parts(self):
        net = Net(PATH)
        self.assertEqual((net.store, net.telling, net.lot, net.late, net.changes), (PATH, "whether", Lot(), 0, 0))
        self.assertEqual((net.rules(), net.tables(), net.readers(), net.secrets(), net.log()), ([], {}, {}, [], Log()))
        self.assertEqual(Net(store=PATH, telling="many", log=["keep ab"]).tables(), kept_of(PATH, Lot(["ab"]), "many"))
        self.assertEqual(Net(PATH, "many").telling, "many")

    def test_errors_in_sequence(self):
        for value in wrong_values() + [Store, [PATH], Log(), Net(PATH), "Store(1, [])"]:
            self.refuses(InvalidStore, {"value": value}, Net, value, None, None)
            self.refuses(InvalidStore, {"value": value}, Net.torn, value, None, None)
            if not isinstance(value, str):
                with self.assertRaises(InvalidText) as caught:
                    Net.torn(PATH, value, None)
                self.assertEqual(caught.exception.line, 1)
        for value in wrong_values() + ["Many", ["many"], "counts"]:
            self.refuses(InvalidTelling, {"value": value}, Net, PATH, value, None)
            self.refuses(InvalidTelling, {"value": value}, Net.torn, PATH, "x", value)
        nine = Store(9)
        for value in (None, True, 0, "keep a", "", {}, {"keep a": 1}, Odd(), PATH, b"a"):
            self.refuses(InvalidEntries, {"position": None}, Net, nine, "many", value)
        for value in wrong_values() + [" a", "a ", "all 2", "all", "", (), ("put", ""), ["put"], ("a", ("b",)), Same()]:
            if not (isinstance(value, str) and value in ("x", "A")):
                self.refuses(InvalidEntries, {"position": 1}, Net, nine, "many", ["sum", value, None])
        self.too_many("nodes", 8, Net, nine, "many", ["sum"])
        self.too_many("nodes", 8, Net.torn, nine, "", "many")
        self.assertEqual(Net(nine).store, nine)
        self.assertEqual(Net(Store(8), "many").store, Store(8))

    def test_entries_that_are_refused(self):
        self.fails("InvalidCommand", "sum", Net, PATH, "whether", ["put 0 a 0", "sum", "drop a"])
        self.fails("UnknownWord", "a", Net, PATH, "whether", ["put 0 a 0", "drop a", "sum"])
        error = self.fails("CommandFailed", 1, Net, PATH, "whether", ["put 0 a 0", ("keep a", "drop b")])
        self.assertEqual((type(error.__cause__).__name__, error.__cause__.value), ("UnknownWord", "b"))
        self.fails("CommandFailed", 0, Net, PATH, "whether", [("sum",)])

    def test_logs_and_lists(self):
        entries = ["put 0 a 0", ("keep a", "late", "put 1 a 1"), "late", ("undo",), ("late", "up"), ("redo", "told a")]
        net = Net(PATH, "whether", entries)
        self.assertEqual(net.log().entries(), ["put 0 a 0", ("keep a", "put 1 a 1"), "undo", "redo"])
        self.assertEqual(Net(PATH, "whether", Log(entries)), net)
        self.assertEqual(Net(PATH, "whether", tuple(entries)).log(), net.log())
        self.assertEqual(Net(PATH, "whether", net.log()), net)
        self.assertEqual(Net(PATH, "whether", net.log()).changes, net.changes)
        entries.append("sum")
        self.assertEqual(len(net.log()), 4)

    def test_more_than_three_hundred_entries(self):
        net = Net(PATH, "whether", ["put 0 a 2", "strike 0 a 2"] * 151)
        self.assertEqual(net.changes, 302)
        self.too_many("entries", 300, net.log)
        self.assertEqual(net("undo"), "301")
        self.assertEqual(net.store, PATH + (0, "a", 2))
        self.assertEqual(len(Net(PATH, "whether", ["put 0 a 2", "strike 0 a 2"] * 150).log()), 300)
        self.assertEqual(net("late"), "0")

    def test_torn(self):
        net = Net(PATH)
        net.do_all("keep b", "keep ab")
        net("put 0 b 2")
        net.do_all("put 2 a 0", "undo", "redo", "hide aa")
        net("grant ann b")
        text = net.log().text()
        for at in range(len(text) + 1):
            whole = [many for many in range(5) if len(net.log().first(many).text()) <= at][-1]
            self.assertEqual(Net.torn(PATH, text[:at]), Net(PATH, "whether", net.log().first(whole)))
        self.assertEqual(Net.torn(store=PATH, text=text, telling="many").store, net.store)
        self.fails("InvalidCommand", "sum", Net.torn, PATH, Log(["keep a", "sum"]).text())

    def test_equal(self):
        base = ["keep ab", "rule ab c", "rule a b", "grant ann a", "hide bb"]
        net = Net(PATH, "whether", base)
        for more in (["put 0 a 0"], ["put 0 b 0"], ["strike 0 a 1"], ["keep b"], ["drop ab"], ["rule b b"], ["unrule a b"],
                     ["unrule ab c", "rule ab c"], ["grant ann c"], ["revoke ann a"], ["grant bob a"], ["hide cc"],
                     ["show bb"]):
            other = Net(PATH, "whether", base + more)
            self.assertFalse(net == other, more)
            self.assertTrue(net != other, more)
        for more in (["put 0 c 0", "undo"], ["put 0 c 0", "strike 0 c 0"], ["late"], ["keep b", "drop b"], ["keep ab"],
                     ["hide cc", "show cc"], ["grant bob c", "revoke bob c"], ["rule b b", "unrule b b"]):
            self.assertTrue(net == Net(PATH, "whether", base + more), more)
            self.assertFalse(net != Net(PATH, "whether", base + more), more)
        # As late with unlike tables, and with the same tables unlike late, of one store.
        late = ["put 0 b 0", "strike 0 b 0"]
        self.assertFalse(Net(PATH, "whether", base + late) == net)
        self.assertFalse(Net(PATH, "whether", base + late * 2) == Net(PATH, "whether", base + late))
        self.assertTrue(Net(PATH, "whether", base + late + ["refresh"]) == net)
        one = Net(PATH, "whether", ["keep ab", "strike 1 b 2", "put 1 b 2"])
        other = Net(PATH, "whether", ["strike 1 b 2", "put 1 b 0", "keep ab", "strike 1 b 0", "put 1 b 2"])
        self.assertEqual((one.store, one.late, one.lot), (other.store, other.late, other.lot))
        self.assertFalse(one == other)
        self.assertFalse(Net(PATH) == Net(PATH, "many"))
        for value in (None, PATH, "net", Net, Odd(), 0):
            self.assertFalse(net == value)
            self.assertTrue(net != value)

    def test_the_sequence_in_which_readers_came_has_no_effect(self):
        one = Net(PATH, "whether", ["grant bob a", "grant ann b", "keep b", "keep a", "hide cc", "hide d"])
        other = Net(PATH, "whether", ["hide d", "hide cc", "grant ann b", "keep a", "grant bob a", "keep b"])
        self.assertTrue(one == other)
        self.assertEqual((list(one.readers()), one.secrets(), list(one.tables())), (["ann", "bob"], ["d", "cc"], ["a", "b"]))

    def test_what_is_told_is_new(self):
        for telling in ("whether", "many"):
            net = Net(PATH, telling, ["keep ab", "rule ab c", "grant ann a", "hide bb"])
            before = copy.deepcopy(parts_of(net))
            net.rules().append("x")
            net.tables()["ab"].append("x")
            net.tables()["ab"][0:1] = []
            if telling == "many":
                net.tables()["ab"][0].append("x")
            net.tables().clear()
            net.readers().clear()
            net.secrets().append("x")
            self.assertEqual(parts_of(net), before)


class Commands(NetCase):
    def test_example(self):
        net = Net(Store(3), "whether")
        self.assertEqual(net.do_all("put 1 b 2", "keep b", "keep ab", "put 0 a 1", "told ab", "late", "up"),
                         ["done", "done", "done", "done", "0-2", "0", "acdef"])
        self.assertEqual(tried(net, "strike 1 b 2", "late", "told ab"), ["done", "1", "0-2"])
        self.assertEqual([net("hide aab"), net("grant ann ab"), net.log().entries()[-1], net.changes],
                         ["done", "done", "grant ann ab", 6])
        self.assertTrue(Net(Store(3), "whether", net.log()) == net)

    def test_values_that_are_no_commands(self):
        net = Net(PATH, "whether", ["keep a", "undo"])
        for value in NO_COMMANDS:
            self.refuses(InvalidCommand, {"value": value}, net.do, value)
            self.refuses(InvalidCommand, {"value": value}, net, value)
            with self.assertRaises(CommandFailed) as caught:
                net.do_all("late", value)
            self.assertEqual(caught.exception.position, 1)
            self.assertIs(type(caught.exception.__cause__), InvalidCommand)
            self.assertIs(caught.exception.__cause__.value, value)
        self.assertEqual((net("redo"), net.log().entries()), ("1", ["keep a", "undo", "redo"]))

    def test_by_name(self):
        net = Net(PATH)
        self.assertEqual((net.do(command="late"), net(command="late")), ("0", "0"))

    def test_put_and_strike(self):
        net = Net(PATH)
        self.assertEqual([net("put 0 a 1"), net("put 2 f 2"), net("strike 0 a 0"), net("strike 0 a 1")],
                         ["idle", "done", "idle", "done"])
        self.assertEqual((net.store, net.changes), (Store(3, [(1, "b", 2), (2, "f", 2)]), 4))
        self.assertEqual(net.log().entries(), ["put 0 a 1", "put 2 f 2", "strike 0 a 0", "strike 0 a 1"])
        for first in ("put", "strike"):
            for words, tie in (("3 a 0", (3, "a", 0)), ("0 a 3", (0, "a", 3)), ("40 f 0", (40, "f", 0)),
                               ("9" * 150 + " a 0", (int("9" * 150), "a", 0))):
                self.refused(net, f"{first} {words}", "InvalidTie", tie)
        full = Net(FULL)
        self.refused(full, "put 0 a 0", "TooMany", ("ties", 400))
        self.assertEqual([full("put 0 f 0"), full("strike 0 f 0"), full("put 0 a 0")], ["idle", "done", "done"])

    def test_fill_and_wanted(self):
        net = Net(PATH, "whether", ["rule ab c", "rule ac b"])
        self.assertEqual(net("wanted"), "0-c-2")
        self.assertEqual([net("fill"), net("wanted"), net("fill")], ["1", "none", "0"])
        self.assertEqual(net.store, PATH + (0, "c", 2))
        self.assertEqual((net.changes, net.log().entries()[-2:]), (4, ["fill", "fill"]))
        loops = Net(Store(3, [(2, "a", 2), (0, "a", 1), (1, "a", 2)]), "whether", ["rule a b", "rule aa c", "rule c a"])
        self.assertEqual(loops("wanted"), "0-b-1 0-c-2 1-b-2 1-c-2 2-b-2 2-c-2")
        self.assertEqual(loops("fill"), "8")
        self.assertEqual(loops("wanted"), "none")

    def test_fill_is_late_from_the_first_tie_that_is_not_told(self):
        # The lot keeps itself up for all letters but b; the ties come as they are sorted.
        for rules, first in ((["rule a b", "rule a c"], 4), (["rule a c", "rule c d", "rule d b"], 5)):
            net = Net(Store(3, [(0, "a", 1), (1, "a", 2)]), "whether", ["keep b", "keep ab", *rules])
            slow = SlowNet(3, net.store.ties(), "whether")
            for entry in net.log():
                slow.do(entry)
            self.assertEqual(net("fill"), slow.do("fill"))
            self.assertEqual(parts_of(net), slow.parts())
            self.assertGreater(net.late, 0)
        net = Net(Store(3, [(0, "a", 1), (1, "a", 2)]), "whether", ["keep b", "keep ab", "rule a c"])
        self.assertEqual([net("fill"), net.late], ["2", 0])

    def test_fill_at_the_limit(self):
        ring = [(x, "a", (x + 1) % 20) for x in range(20)]
        net = Net(Store(20, ring), "whether", ["rule aa a"])
        self.assertEqual(net("fill"), "380")
        self.assertEqual(len(net.store), 400)
        more = Net(Store(20, ring + [(0, "f", 0)]), "whether", ["rule aa a", "keep a"])
        self.refused(more, "fill", "TooMany", ("ties", 400))
        self.assertEqual(more("wanted").split(" ")[0], "0-a-2")
        self.assertEqual(put_in_sequence(3, [(0, "a", 1), (1, "a", 2)], [("aa", "a")], 3), [(0, "a", 2)])
        self.too_many("ties", 2, put_in_sequence, 3, [(0, "a", 1), (1, "a", 2)], [("aa", "a")], 2)
        wide = Net(Store(40, [(x, "a", (x + 1) % 40) for x in range(40)]), "whether", ["rule aa a", "rule aa b", "rule ab c"])
        self.refused(wide, "fill", "TooMany", ("ties", 400))

    def test_rule_and_unrule(self):
        net = Net(PATH)
        self.assertEqual([net("rule ab c"), net("rule a b"), net("rule ab c"), net("unrule b a"), net("unrule ab c")],
                         ["done", "done", "idle", "idle", "done"])
        self.assertEqual((net.rules(), net.changes), ([("a", "b")], 5))
        for first in ("rule", "unrule"):
            self.refused(net, f"{first} abcd a", "InvalidRule", ("abcd", "a"))
            self.refused(net, f"{first} {'f' * 12} f", "InvalidRule", ("f" * 12, "f"))
        net.do_all("rule b a", "rule c a", "rule d a")
        self.refused(net, "rule e a", "TooMany", ("rules", 4))
        self.assertEqual(net("rule d a"), "idle")
        self.assertEqual(net.rules(), [("a", "b"), ("b", "a"), ("c", "a"), ("d", "a")])

    def test_keep_drop_and_refresh(self):
        net = Net(PATH)
        self.assertEqual([net("keep ab"), net("keep b"), net("keep ab"), net("drop b")], ["done", "done", "idle", "done"])
        self.assertEqual((net.lot, net.tables()), (Lot(["ab"]), {"ab": [(0, 2)]}))
        self.refused(net, "drop b", "UnknownWord", "b")
        # Late tables stay so behind a word less; a word more makes all fresh.
        self.assertEqual([net("put 0 b 2"), net("put 0 f 0"), net.late], ["done", "done", 2])
        self.assertEqual([net("drop ab"), net.late, net.tables()], ["done", 2, {}])
        self.assertEqual([net("put 1 f 0"), net.late, net("keep ab"), net.late], ["done", 3, "done", 0])
        self.assertEqual([net("put 2 b 2"), net("keep ab"), net.late], ["done", "idle", 1])
        self.assertEqual([net("refresh"), net.late, net("refresh")], ["1", 0, "0"])
        self.assertEqual(net.tables(), kept_of(net.store, net.lot, "whether"))
        for letter in "cdef":
            net.do_all(f"keep {letter}", f"keep {letter * 2}") if letter != "f" else net.do("keep f")
        self.assertEqual(len(net.lot), 8)
        self.refused(net, "keep ff", "TooMany", ("words", 8))
        self.assertEqual(net("keep f"), "idle")

    def test_tables_of_no_words_are_late_only_behind_those_that_were(self):
        net = Net(PATH)
        self.assertEqual([net("put 0 b 2"), net.late, net("refresh")], ["done", 0, "0"])
        net.do_all("keep ab", "strike 1 b 2", "drop ab")
        self.assertEqual([net("late"), net("strike 0 b 2"), net("late"), net("put 0 b 2")], ["1", "done", "2", "done"])
        self.assertEqual([net("put 0 b 2"), net("late"), net("refresh"), net("late")], ["idle", "3", "3", "0"])

    def test_upkeep_in_both_tellings(self):
        for telling, late in (("whether", 1), ("many", 0)):
            net = Net(PATH, telling, ["keep b", "keep ab"])
            self.assertEqual([net("put 2 a 1"), net.late], ["done", 0])
            self.assertEqual(net.tables(), kept_of(net.store, net.lot, telling))
            self.assertEqual([net("strike 2 a 1"), net.late], ["done", late])
            self.assertEqual([net("strike 0 f 0"), net("put 0 a 1"), net.late], ["idle", "idle", late])
            net = Net(PATH, telling, ["keep aab", "keep b"])
            self.assertEqual([net("put 0 b 0"), net.late], ["done", 1])
            self.assertEqual(net.tables(), kept_of(PATH, net.lot, telling))
            net = Net(PATH, telling, ["keep aab", "keep b", "put 0 f 0", "strike 0 f 0", "strike 0 a 1", "put 0 c 0"])
            self.assertEqual(net.late, 2)
            self.assertEqual(net.tables(), kept_of(PATH, net.lot, telling))

    def test_grant_revoke_and_ask(self):
        net = Net(PATH)
        self.assertEqual([net("grant bob ab"), net("grant ann b"), net("grant bob a"), net("grant bob ab")],
                         ["done", "done", "done", "idle"])
        self.assertEqual(net.readers(), {"ann": Lot(["b"]), "bob": Lot(["a", "ab"])})
        self.assertEqual(list(net.readers()), ["ann", "bob"])
        self.assertEqual([net("ask bob ab"), net("ask ann b"), net("ask bob a")], ["0-2", "1-2", "0-1"])
        self.refused(net, "ask ann ab", "NotGranted", "ab")
        self.refused(net, "ask cy ab", "UnknownReader", "cy")
        self.refused(net, "revoke cy ab", "UnknownReader", "cy")
        self.refused(net, "revoke ann ab", "UnknownWord", "ab")
        self.assertEqual([net("revoke bob ab"), net("revoke ann b")], ["done", "done"])
        self.assertEqual(net.readers(), {"bob": Lot(["a"])})
        self.refused(net, "ask ann b", "UnknownReader", "ann")
        net.do_all("grant cy a", "grant dora a", "grant eve a")
        self.refused(net, "grant ann a", "TooMany", ("readers", 4))
        words = ["b", "c", "d", "e", "f", "aa", "bb"]
        net.do_all(*[f"grant bob {word}" for word in words])
        self.refused(net, "grant bob cc", "TooMany", ("words", 8))
        self.assertEqual(net("grant bob bb"), "idle")

    def test_asked_of_the_store_as_it_stands(self):
        net = Net(PATH, "whether", ["keep ab", "grant ann ab"])
        net("strike 1 b 2")
        self.assertEqual([net("ask ann ab"), net("told ab"), net("late")], ["none", "0-2", "1"])
        many = Net(Store(3, [(0, "a", 1), (0, "a", 2), (1, "b", 2), (2, "b", 2)]), "many", ["grant ann ab", "keep ab"])
        self.assertEqual([many("ask ann ab"), many("told ab"), many("say (a then b)")], ["0-2*2", "0-2*2", "0-2"])
        self.assertEqual(many("say F"), "none")

    def test_secrets(self):
        net = Net(PATH, "whether", ["grant bob ab", "grant ann b", "grant bob bc"])
        self.assertEqual([net("hide abc"), net("hide abc"), net("hide a"), net.secrets()],
                         ["done", "idle", "done", ["a", "abc"]])
        # With b, bob would have the plan ab, back b, bc of abc, and know nothing of a.
        self.refused(net, "grant bob b", "GivenAway", "abc")
        self.refused(net, "grant bob a", "GivenAway", "a")
        self.refused(net, "grant ann a", "GivenAway", "a")
        self.refused(net, "hide ab", "GivenAway", "bob")
        self.refused(net, "hide b", "GivenAway", "ann")
        self.refused(net, "hide bb", "GivenAway", "ann")
        net("grant bob bb")
        self.refused(net, "hide bb", "GivenAway", "ann")
        self.assertEqual([net("show a"), net("grant ann a"), net.secrets()], ["done", "done", ["abc"]])
        self.refused(net, "show a", "UnknownWord", "a")
        net.do_all("hide ff", "hide ee", "hide dd")
        self.refused(net, "hide cf", "TooMany", ("secrets", 4))
        self.assertEqual(net("hide ee"), "idle")
        # The net's own words give nothing away.
        self.assertEqual([net("keep ff"), net("told ff")], ["done", "none"])

    def test_the_first_secret_and_the_first_reader_are_told(self):
        net = Net(PATH, "whether", ["grant dora ab", "grant bob ab", "grant ann f", "grant cy ab", "hide cc", "hide d",
                                    "hide ccc", "hide c"])
        self.refused(net, "hide ab", "GivenAway", "bob")
        self.refused(net, "hide abab", "GivenAway", "bob")
        # Sorted as words are: the shorter one first, whatever sequence they were hidden in.
        self.refused(net, "grant eve c", "GivenAway", "c")
        net("show c")
        self.refused(net, "grant ann c", "GivenAway", "cc")
        self.assertEqual(net.secrets(), ["d", "cc", "ccc"])

    def test_given_away_is_told_ahead_of_too_many(self):
        words = ["a", "b", "c", "d", "e", "f", "aabb", "bbbb"]
        net = Net(PATH, "whether", [f"grant ann {word}" for word in words])
        self.refused(net, "hide abc", "GivenAway", "ann")
        small = Net(PATH, "whether", [f"grant ann {word}" for word in words[2:]] + ["grant ann cc", "grant ann dd", "hide a",
                                                                                   "hide ba"])
        self.refused(small, "grant ann a", "GivenAway", "a")
        self.refused(small, "grant ann ba", "GivenAway", "ba")
        self.refused(small, "grant ann b", "TooMany", ("words", 8))
        others = small.copy()
        others.do_all("grant bob c", "grant cy c", "grant dora c")
        self.refused(others, "grant eve a", "GivenAway", "a")
        self.refused(others, "grant eve c", "TooMany", ("readers", 4))
        others.do_all("hide aa", "hide bb")
        self.refused(others, "hide c", "GivenAway", "ann")
        self.refused(others, "hide bbb", "TooMany", ("secrets", 4))

    def test_told(self):
        net = Net(PATH, "whether", ["keep ab", "keep b"])
        self.assertEqual([net("told ab"), net("told b")], ["0-2", "1-2"])
        self.refused(net, "told a", "NotSettled", "a")
        self.refused(net, "told ba", "NotSettled", "ba")
        self.assertEqual(net("told bb"), "none")

    def test_say(self):
        net = Net(Store(3, [(0, "a", 1), (0, "a", 2), (1, "b", 2), (2, "b", 2)]))
        self.assertEqual(net("say ((a or b) then (again B))"), "0-1 0-2 1-1 1-2 2-1 2-2")
        self.assertEqual([net("say a"), net("say (perhaps c)"), net("say C")], ["0-1 0-2", "0-0 1-1 2-2", "none"])
        wide = "a"
        for _ in range(8):
            wide = f"({wide} or b)"
        self.refused(net, "say " + wide, "TooMany", ("leaves", 8))
        self.refused(net, "say " + "(again " * 15 + "a" + ")" * 15, "TooMany", ("parts", 15))
        self.assertEqual((net.changes, len(net.log())), (0, 0))

    def test_up_and_late(self):
        net = Net(PATH)
        self.assertEqual([net("up"), net("late")], ["abcdef", "0"])
        net.do_all("keep aab", "keep bba", "keep ccd", "keep ddc", "keep eef", "keep ffe")
        self.assertEqual(net("up"), "none")
        self.assertEqual(kept_letters(net.lot), "")
        self.assertEqual((net.changes, len(net.log())), (6, 1))


class Backwards(NetCase):
    def test_ordinary(self):
        net = Net(PATH)
        self.refused(net, "undo", "NothingToUndo")
        self.refused(net, "redo", "NothingToRedo")
        net.do_all("keep ab", "put 0 b 0", "put 0 b 0", "fill")
        after = [parts_of(net)]
        self.assertEqual([net("undo"), net("undo"), net.changes], ["3", "2", 2])
        self.assertEqual([net("redo"), net("redo")], ["3", "4"])
        self.assertEqual({**parts_of(net), "log": 0}, {**after[0], "log": 0})
        self.refused(net, "redo", "NothingToRedo")
        self.assertEqual([net("undo") for _ in range(4)], ["3", "2", "1", "0"])
        self.refused(net, "undo", "NothingToUndo")
        self.assertEqual((net.store, net.lot, net.late, net.changes), (PATH, Lot(), 0, 0))
        self.assertEqual(net.log().entries()[1:], ["undo", "undo", "redo", "redo"] + ["undo"] * 4)
        self.assertEqual([net("redo"), net("redo"), net("late")], ["1", "2", "1"])

    def test_other_changes_behind_what_was_taken_back(self):
        for command in ("put 0 a 1", "fill", "refresh", "unrule a b", "keep ab", "hide c", "strike 0 f 0"):
            net = Net(PATH, "whether", ["keep ab", "put 0 a 2", "undo"])
            self.assertEqual(net.copy()("redo"), "2")
            net(command)
            self.refused(net, "redo", "NothingToRedo")
        net = Net(PATH, "whether", ["keep ab", "put 0 a 2", "undo"])
        for command in ("late", "say a", "up", "wanted", "told ab"):
            net(command)
        for command, kind in (("drop b", "UnknownWord"), ("put 9 a 9", "InvalidTie"), ("sum", "InvalidCommand")):
            self.refused(net, command, kind)
        self.assertEqual(net("redo"), "2")
        # One that was taken back and a change behind it leave nothing to do again; the change itself can be taken back.
        net("undo")
        net("put 0 f 0")
        self.assertEqual([net("undo"), net("redo"), net.store], ["1", "2", PATH + (0, "f", 0)])

    def test_all_parts_come_back(self):
        commands = ["put 0 b 2", "strike 0 a 1", "rule a b", "rule b c", "unrule a b", "keep b", "put 0 b 0", "put 0 b 1",
                    "drop b", "fill", "keep ab", "grant ann b", "grant ann a", "revoke ann b", "hide bb", "show bb",
                    "hide cc", "put 1 b 1", "refresh"]
        net = Net(PATH)
        seen = [parts_of(net)]
        for command in commands:
            net(command)
            seen.append(parts_of(net))
        for many in reversed(range(len(commands))):
            self.assertEqual(net("undo"), str(many))
            self.assertEqual({**parts_of(net), "log": 0}, {**seen[many], "log": 0})
        for many in range(1, len(commands) + 1):
            self.assertEqual(net("redo"), str(many))
            self.assertEqual({**parts_of(net), "log": 0}, {**seen[many], "log": 0})


class Together(NetCase):
    def test_do_all(self):
        net = Net(PATH)
        self.assertEqual(net.do_all(), [])
        self.assertEqual(net.do_all("late", "up"), ["0", "abcdef"])
        self.assertEqual(net.log(), Log())
        self.assertEqual(net.do_all("late", "put 0 b 0"), ["0", "done"])
        self.assertEqual(net.do_all("put 0 b 0", "late", "undo", "say b"), ["idle", "0", "1", "0-0 1-2"])
        self.assertEqual(net.log().entries(), ["put 0 b 0", ("put 0 b 0", "undo")])
        self.assertEqual(net.changes, 1)

    def test_all_or_none(self):
        net = Net(PATH, "whether", ["keep ab", "put 0 a 2", "undo"])
        before = parts_of(net)
        for position, commands in ((2, ("undo", "put 0 b 0", "drop b", "sum")), (0, ("sum",)), (1, ("redo", "redo")),
                                   (3, ("hide a", "late", "up", "ask ann a"))):
            error = self.fails("CommandFailed", position, net.do_all, *commands)
            self.assertIsNotNone(error.__cause__)
            self.assertEqual(parts_of(net), before)
        self.assertIs(type(self.fails("CommandFailed", 1, net.do_all, "redo", "redo").__cause__), faults.NothingToRedo)
        error = self.fails("CommandFailed", 1, net.do_all, "late", "ask ann a")
        self.assertEqual((type(error.__cause__), error.__cause__.value), (UnknownReader, "ann"))
        self.assertEqual(net("redo"), "2")
        full = Net(FULL)
        error = self.fails("CommandFailed", 1, full.do_all, "late", "put 0 a 0")
        self.assertEqual((type(error.__cause__), error.__cause__.what), (TooMany, "ties"))
        granted = Net(PATH, "whether", ["grant ann a"])
        self.assertIs(type(self.fails("CommandFailed", 0, granted.do_all, "ask ann b").__cause__), NotGranted)

    def test_tried(self):
        net = Net(PATH, "whether", ["keep ab", "put 0 a 2", "undo"])
        before = parts_of(net)
        self.assertEqual(tried(net, "redo", "undo", "put 0 b 2", "late", "undo", "late"), ["2", "1", "done", "1", "1", "0"])
        self.assertEqual(parts_of(net), before)
        self.assertEqual(tried(net), [])
        self.assertEqual(net("redo"), "2")
        before = parts_of(net)
        self.fails("CommandFailed", 1, tried, net, "hide c", "sum")
        self.assertEqual(parts_of(net), before)

    def test_trial(self):
        net = Net(PATH, "whether", ["keep ab", "put 0 a 2", "undo"])
        before = parts_of(net)
        with Trial(net) as trying:
            self.assertIs(trying, net)
            trying("put 0 b 0")
            self.assertEqual([net("late"), net("undo"), net.changes], ["1", "1", 1])
            with Trial(net=net) as inner:
                inner.do_all("hide a", "hide b", "grant ann ab")
                self.assertEqual(net.secrets(), ["a", "b"])
            self.assertEqual((net.secrets(), net.changes), ([], 1))
        self.assertEqual(parts_of(net), before)
        for error in (ValueError("x"), KeyError("y"), SystemExit(), errors.NetError()):
            with self.assertRaises(type(error)) as caught:
                with Trial(net):
                    net.do_all("undo", "keep b")
                    raise error
            self.assertIs(caught.exception, error)
            self.assertEqual(parts_of(net), before)
        with self.assertRaises(InvalidCommand):
            with Trial(net):
                net("undo")
                net("sum")
        self.assertEqual(parts_of(net), before)
        self.assertEqual(net("redo"), "2")

    def test_one_trial_twice_and_made_early(self):
        net = Net(PATH)
        trial = Trial(net)
        net("keep ab")
        for _ in range(2):
            with trial:
                net("drop ab")
            self.assertEqual(net.lot, Lot(["ab"]))
            net("put 0 f 0")
        self.assertEqual(net.log().entries(), ["keep ab", "put 0 f 0", "put 0 f 0"])

    def test_copy(self):
        net = Net(PATH, "many", ["keep ab", "put 0 a 2", "put 0 b 0", "undo"])
        other = net.copy()
        self.assertTrue(net == other)
        self.assertEqual(parts_of(net), parts_of(other))
        self.assertEqual(other.telling, "many")
        self.assertEqual([other("redo"), other("hide c"), net.changes, net.secrets()], ["3", "done", 2, []])
        self.assertEqual([net("redo"), net("undo"), net("undo"), net("undo")], ["3", "2", "1", "0"])
        self.assertEqual((other.changes, other.secrets(), other.lot), (4, ["c"], Lot(["ab"])))
        self.assertEqual(len(other.log()), 6)


class AgainstSlow(NetCase):
    def look_at(self, net, slow, call, *commands):
        """Both do the same, and show the same."""
        try:
            told = getattr(slow, call)(*commands)
        except Refused as refused:
            kind, *rest = refused.args
            error = self.fails(kind, None, getattr(net, call), *commands)
            if kind == "CommandFailed":
                self.assertEqual(error.position, rest.pop(0))
                error, kind = error.__cause__, rest.pop(0)
                self.assertEqual(type(error).__name__, kind)
            if kind == "TooMany":
                self.assertEqual(error.what, rest[0])
            elif rest:
                self.assertEqual((error.value, type(error.value)), (rest[0], type(rest[0])))
            return kind
        self.assertEqual(getattr(net, call)(*commands), told, commands)
        return told

    def test_drawn_commands(self):
        rng = random.Random(251)
        seen = set()
        for _ in range(40):
            telling = rng.choice(("whether", "many"))
            store = some_store(rng, rng.randint(1, 3), rng.randint(0, 5), "ab")
            net, slow = Net(store, telling), SlowNet(store.nodes, store.ties(), telling)
            for _ in range(60):
                if rng.random() < 0.8:
                    command = some_command(rng, store.nodes)
                    told = self.look_at(net, slow, "do", command)
                    seen.add((command.split(" ")[0], told if told in ("idle", "done") or not told[:1].islower() else ""))
                else:
                    self.look_at(net, slow, "do_all", *[some_command(rng, store.nodes) for _ in range(rng.randint(0, 4))])
                self.assertEqual(parts_of(net), slow.parts())
            self.assertEqual(Net(store, telling, net.log()), net)
        self.assertGreater(len(seen), 60)

    def test_trials_over_drawn_commands(self):
        rng = random.Random(252)
        for _ in range(15):
            store = some_store(rng, 3, 4, "ab")
            net = Net(store, rng.choice(("whether", "many")))
            for _ in range(30):
                before, held = parts_of(net), net.copy()
                try:
                    with Trial(net):
                        for _ in range(rng.randint(0, 5)):
                            net(some_command(rng, 3))
                except (errors.NetError, errors.MissingError, errors.StateError, errors.LimitError):
                    pass
                self.assertEqual(parts_of(net), before)
                self.assertEqual(net, held)
                try:
                    net(some_command(rng, 3))
                except (errors.NetError, errors.MissingError, errors.StateError, errors.LimitError):
                    self.assertEqual(parts_of(net), before)


class OneNet(NetCase):
    """Point [4]: all parts of a net tell of one store, behind every command, undo and fall."""

    def look_at(self, net, rng):
        store, telling = net.store, net.telling
        if net.late == 0:
            self.assertEqual(net.tables(), kept_of(store, net.lot, telling))
            for word in ("a", "ab", "aab", "abb", "ba"):
                if is_settled(net.lot, word):
                    answer = slow_answer(store.nodes, set(store.ties()), word, telling)
                    self.assertEqual(net(f"told {word}"), slow_text(answer, telling))
                    code = code_of_plan(net.lot, word)
                    self.assertTrue(is_sure(code, word))
                    if telling == "whether":
                        self.assertEqual(run_kept(code, store.nodes, net.tables())[-1], answer)
        for name, lot in net.readers().items():
            for word in lot:
                answer = slow_answer(store.nodes, set(store.ties()), word, telling)
                self.assertEqual(net(f"ask {name} {word}"), slow_text(answer, telling))
            for secret in net.secrets():
                self.assertFalse(is_settled(lot, secret))
        saying = Saying(rng.choice(TREES))
        self.assertEqual(net(f"say {saying.text()}"), slow_text(said(store, saying), "whether"))
        self.assertEqual(run(code_of(saying), store)[-1], said(store, saying))
        self.assertEqual(net("wanted") == "none", obeys(store, net.rules()))
        self.assertEqual(net("wanted") == "none", tried(net, "fill") == ["0"])
        self.assertEqual(wanted(store, net.rules())[:1], [] if net("wanted") == "none" else [
            tuple(int(part) if part.isdigit() else part for part in net("wanted").split(" ")[0].split("-"))])
        self.assertEqual(net("up"), kept_letters(net.lot) or "none")

    def test_behind_every_command_undo_and_fall(self):
        rng = random.Random(253)
        for _ in range(15):
            telling = rng.choice(("whether", "many"))
            first = some_store(rng, 3, rng.randint(0, 5), "ab")
            net = Net(first, telling)
            for _ in range(40):
                try:
                    net(some_command(rng, 3))
                except (errors.NetError, errors.MissingError, errors.StateError, errors.LimitError):
                    pass
                self.look_at(net, rng)
            text = net.log().text()
            for at in rng.sample(range(len(text) + 1), min(5, len(text) + 1)):
                fallen = Net.torn(first, text[:at], telling)
                self.assertEqual(fallen, Net(first, telling, Log.torn(text[:at])[0]))
                self.look_at(fallen, rng)
            while net.changes:
                net("undo")
                self.look_at(net, rng)
            self.assertEqual(net, Net(first, telling))


class Limits(NetCase):
    def test_great_nets(self):
        rng = random.Random(254)
        store = some_store(rng, 40, 300, "abcdef")
        words = ["b", "ab", "c", "abc", "bc", "d", "abcd", "bcd"]
        net = Net(store, "whether", [f"keep {word}" for word in words])
        free = [tie for tie in ((x, "a", y) for x in range(40) for y in range(40)) if tie not in store][:20]
        net.do_all(*[f"put {x} {letter} {y}" for x, letter, y in free])
        self.assertEqual(net.late, 0)
        self.assertEqual(net.tables(), kept_of(net.store, net.lot, "whether"))
        eight = some_store(rng, 8, 200, "abcdef")
        net = Net(eight, "many", ["keep " + "a" * many for many in range(1, 9)])
        for x, letter, y in [tie for tie in eight.ties() if tie[1] == "a"][:10]:
            net.do_all(f"strike {x} {letter} {y}", f"put {y} {letter} {x}")
        self.assertEqual(net.late, 0)
        self.assertEqual(net.tables(), kept_of(net.store, net.lot, "many"))


if __name__ == "__main__":
    unittest.main()
