"""Point [91] and netkeep/texts.py: texts of stores, questions, rules, lots and kinds, and the wrong lines of others."""

import random
import unittest

from netkeep.errors import InvalidRules
from netkeep.faults import InvalidText
from netkeep.kinds import Kind
from netkeep.lots import Lot
from netkeep.questions import Question
from netkeep.store import Store
from netkeep.texts import read_kind, read_lot, read_question, read_rules, read_store, rules_text, text_of
from marked import some_kind
from support import Case, Odd, some_question, some_rules, some_store, some_words, wrong_values
from written import slow_wrong_line, texts_otherwise

STORE = Store(12, [(0, "a", 11), (0, "b", 1), (2, "a", 0), (10, "f", 10)])
QUESTION = Question(3, [(0, "a", 1), (0, "B", 1), (2, "f", 2)], [2, 0])
RULES = [("abc", "d"), ("a", "a"), ("fe", "b")]
LOT = Lot(["ba", "a", "abcdefabcdef"])
KIND = Kind.strike_wins()
READERS = {"store": read_store, "question": read_question, "rules": read_rules, "lot": read_lot, "kind": read_kind}
TEXTS = {
    "store": "store 12\ntie 0 a 11\ntie 0 b 1\ntie 2 a 0\ntie 10 f 10\n",
    "question": "question 3 0 2\nstep 0 B 1\nstep 0 a 1\nstep 2 f 2\n",
    "rules": "rules\nrule abc d\nrule a a\nrule fe b\n",
    "lot": "lot a ba abcdefabcdef\n",
    "kind": "kind 2\ngone 1 2\nthere 1 2\ngone 2 2\n",
}


def text_told(value):
    """The text of anything that has one."""
    return rules_text(value) if isinstance(value, list) else text_of(value)


class Texts(Case):
    def test_ordinary(self):
        self.assertEqual([text_of(STORE), text_of(QUESTION), rules_text(RULES), text_of(LOT), text_of(KIND)],
                         list(TEXTS.values()))
        self.assertEqual(text_of(entry=Store(1)), "store 1\n")
        self.assertEqual(text_of(Question(9, [], [])), "question 9\n")
        self.assertEqual(rules_text(rules=()), "rules\n")
        self.assertEqual(text_of(Lot()), "lot\n")
        self.assertEqual(text_of(Kind([[0]], [True])), "kind 1\nthere 0\n")
        self.assertEqual(rules_text(tuple(RULES)), TEXTS["rules"])

    def test_read(self):
        self.assertEqual([READERS[kind](TEXTS[kind]) for kind in READERS], [STORE, QUESTION, RULES, LOT, KIND])
        self.assertEqual(read_store(text="store 40\n"), Store(40))
        self.assertEqual(read_question(text="question 1 0\n"), Question(1, [], [0]))
        self.assertEqual(read_question("question 1\n"), Question(1, [], []))
        self.assertEqual(read_rules(text="rules\n"), [])
        self.assertEqual(read_lot(text="lot\n"), Lot())
        self.assertEqual(read_kind(text="kind 1\ngone 0\n"), Kind([[0]], [False]))

    def test_drawn(self):
        rng = random.Random(231)
        for _ in range(60):
            for told in (some_store(rng, rng.randint(1, 40), rng.randint(0, 30), "abcdef"),
                         some_question(rng, rng.randint(1, 9), rng.randint(0, 20), "abcdefABCDEF"),
                         some_rules(rng, rng.randint(0, 4), "abcdef"), Lot(some_words(rng, rng.randint(0, 8), "abcdef", 12)),
                         some_kind(rng, 12, 5)):
                kind = text_told(told).split("\n")[0].split(" ")[0]
                self.assertEqual(READERS[kind](text_told(told)), told)

    def test_rules_that_are_none(self):
        for value in (None, True, "rules\n", {}, 0, Odd()):
            self.refuses(InvalidRules, {"position": None}, rules_text, value)
        self.refuses(InvalidRules, {"position": 1}, rules_text, [("a", "b"), ("abcd", "a")])
        self.refuses(InvalidRules, {"position": 4}, rules_text, [("a", "b"), ("b", "b"), ("c", "b"), ("d", "b"), ("a", "b")])
        self.too_many("rules", 4, rules_text, [("a", "b"), ("b", "b"), ("c", "b"), ("d", "b"), ("e", "b")])


class Wrong(Case):
    def look_at(self, kind, text):
        """The reader tells of the string what the slow way does; whether it is a text."""
        wrong = slow_wrong_line(kind, text)
        if wrong is None:
            self.assertEqual(text_told(READERS[kind](text)), text)
            return True
        with self.assertRaises(InvalidText, msg=repr((kind, text))) as caught:
            READERS[kind](text)
        self.assertEqual(caught.exception.line, wrong, (kind, text))
        return False

    def test_no_strings(self):
        for read in READERS.values():
            for value in wrong_values() + [STORE, ["store 1"], b"lot\n"]:
                with self.assertRaises(InvalidText) as caught:
                    read(value)
                self.assertEqual(caught.exception.line, 1)

    def test_ordinary(self):
        for kind, text, line in (
                ("store", "", 1), ("store", "\n", 1), ("store", "store 12", 1), ("store", "store 0\n", 1),
                ("store", "store 41\n", 1), ("store", "store 012\n", 1), ("store", "store 1\ntie 0 a 1\n", 2),
                ("store", "store 2\ntie 0 a 1\ntie 0 a 1\n", 3), ("store", "store 2\ntie 1 a 1\ntie 0 a 1\n", 3),
                ("store", "store 2\ntie 0 a 1", 2), ("store", "store 2\n\n", 2), ("store", "store 2\ntie 0 A 1\n", 2),
                ("question", "question 0\n", 1), ("question", "question 10\n", 1), ("question", "question 2 1 0\n", 1),
                ("question", "question 2 1 1\n", 1), ("question", "question 2 2\n", 1), ("question", "question\n", 1),
                ("question", "question 2 1\nstep 0 a 2\n", 2), ("question", "question 2 1\nstep 0 a 1\nstep 0 B 1\n", 3),
                ("rules", "rule a b\n", 1), ("rules", "rules 0\n", 1), ("rules", "rules\nrule abcd a\n", 2),
                ("rules", "rules\nrule a b\nrule a b\n", 3), ("lot", "lot b a\n", 1), ("lot", "lot a a\n", 1),
                ("lot", "lot a\nlot b\n", 2), ("lot", "lot a\nx", 2), ("lot", "lot ab a\n", 1), ("lot", "lot g\n", 1),
                ("kind", "kind 0\n", 1), ("kind", "kind 6\n", 1), ("kind", "kind 2\n", 2), ("kind", "kind 2\ngone 0\n", 2),
                ("kind", "kind 1\ngone 1\n", 3), ("kind", "kind 1\ngone 11\nthere 11\n", 4),
                ("kind", "kind 1\ngone 12\n", 2), ("kind", "kind 1\ngone 1", 2), ("kind", "kind 1\ngone 1\nx", 3),
                ("kind", "kind 1 1\ngone 0\n", 1), ("kind", "kind 1\nGone 0\n", 2), ("kind", "kind 1\nthere 0 0\n", 2)):
            with self.assertRaises(InvalidText) as caught:
                READERS[kind](text)
            self.assertEqual(caught.exception.line, line, (kind, text))
            self.assertEqual(slow_wrong_line(kind, text), line)

    def test_texts_that_are_otherwise(self):
        good = {kind: 0 for kind in READERS}
        for kind, text in TEXTS.items():
            for told in texts_otherwise(text):
                good[kind] += self.look_at(kind, told)
        self.assertGreater(min(good.values()), 5)

    def test_drawn_texts_that_are_otherwise(self):
        rng = random.Random(232)
        for _ in range(8):
            for told in (some_store(rng, rng.choice((1, 2, 10, 11, 40)), 3, "af"), some_question(rng, rng.choice((1, 2, 9)), 3, "aF"),
                         some_rules(rng, rng.randint(0, 4), "ab"), Lot(some_words(rng, rng.randint(0, 3), "ab", 3)),
                         some_kind(rng, 3, 2)):
                text = text_told(told)
                for other in rng.sample(sorted(set(texts_otherwise(text))), 60):
                    self.look_at(text.split("\n")[0].split(" ")[0], other)

    def test_texts_of_other_things(self):
        for kind in READERS:
            for other, text in TEXTS.items():
                self.assertEqual(self.look_at(kind, text), kind == other)

    def test_limits(self):
        ties = [(x, "f", y) for x in range(21) for y in range(20)]
        lines = [f"tie {x} f {y}\n" for x, _, y in ties]
        self.assertEqual(read_store("store 40\n" + "".join(lines[:400])), Store(40, ties[:400]))
        for text, line in (("store 40\n" + "".join(lines[:401]), 402), ("store 40\n" + "".join(lines[:400]) + "x", 402)):
            with self.assertRaises(InvalidText) as caught:
                read_store(text)
            self.assertEqual(caught.exception.line, line)
        steps = sorted((p, sign, q) for p in range(9) for sign in "abcdefABCDEF" for q in range(9))
        question = Question(9, steps, list(range(9)))
        self.assertEqual(read_question(text_of(question)), question)
        self.assertEqual(len(question.steps()), 972)
        for read, text, line in ((read_rules, "rules\n" + "".join(f"rule {letter} a\n" for letter in "abcde"), 6),
                                 (read_lot, "lot a b c d e f aa ab ac\n", 1),
                                 (read_kind, "kind 1\n" + "gone 0\n" * 13, 14),
                                 (read_kind, "kind 5\n" + "gone 0 1 2 3 11\n" * 11, 13)):
            with self.assertRaises(InvalidText) as caught:
                read(text)
            self.assertEqual(caught.exception.line, line)
        self.assertEqual(len(read_rules("rules\n" + "".join(f"rule {letter} a\n" for letter in "abcd"))), 4)
        self.assertEqual(len(read_lot("lot a b c d e f aa ab\n")), 8)
        self.assertEqual(len(read_kind("kind 5\n" + "gone 0 1 2 3 11\n" * 12)), 12)

    def test_numbers_with_many_figures(self):
        for kind, text in (("store", "store {}\n"), ("store", "store 9\ntie {} a 0\n"), ("question", "question {}\n"),
                           ("question", "question 3 {}\n"), ("question", "question 3\nstep 0 a {}\n"), ("kind", "kind {}\n"),
                           ("kind", "kind 1\ngone {}\n")):
            for number in ("9" * 19000, "1" + "0" * 5000, "0" * 6000, "00", "-1", "+1", "1.0", "1_0", " 1", "", "0x1"):
                told = text.format(number)
                with self.assertRaises(InvalidText) as caught:
                    READERS[kind](told)
                self.assertEqual(caught.exception.line, told.count("\n"))


if __name__ == "__main__":
    unittest.main()
