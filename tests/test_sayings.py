"""Points [81] and [82], and netkeep/sayings.py: sayings, what they tell, and the questions that come of them."""

import random
import unittest

from netkeep.errors import InvalidWord, TooMany
from netkeep.faults import InvalidSaying
from netkeep.questions import Question, asked
from netkeep.sayings import Saying, question_of, said, says_alike, says_apart, says_within
from netkeep.store import Store
from netkeep.within import are_alike, lies_within, parting
from spoken import (
    is_tree, leaves_of, parts_of, slow_empty, slow_question, slow_said, small_tree, text_of, turned,
)
from support import Case, Odd, Same, otherwise, slow_parts, slow_reads, some_store, all_strings, wrong_values

FORK = Store(3, [(0, "a", 1), (0, "a", 2), (1, "b", 2), (2, "b", 2)])
SHAPE = ("then", ("or", "a", "b"), ("again", "B"))
SAY = Saying(SHAPE)
# Of the wrong values "A" is a sign.
WRONG_TREES = [value for value in wrong_values() if not (isinstance(value, str) and value == "A")] + [
    "ab", "g", "G", "then", ("then", "a"), ("then", "a", "b", "c"), ("or", "a"), ("again",), ("again", "a", "b"),
    ("perhaps", "a", "b"), ["then", "a", "b"], ("then", ["again", "a"], "b"), ("and", "a", "b"), ("a",), ("a", "b"),
    ("then", "a", ""), ("then", "a", None), ("again", ("again", ("again", 0))), ("Then", "a", "b"), (Same(), "a", "b"),
    ("then", Same(), "b"), (("then", "a", "b"),), ("then", ("a", "b"), "c"), {"then": "a"}, b"a",
]


def chain(many):
    """A tree of so many leaves joined by "or"."""
    tree = "a"
    for _ in range(many - 1):
        tree = ("or", tree, "b")
    return tree


def nested(many, tree="a"):
    """A tree within so many "again"."""
    for _ in range(many):
        tree = ("again", tree)
    return tree


class Made(Case):
    def test_parts(self):
        self.assertEqual((SAY.shape, SAY.many_parts, SAY.leaves(), len(SAY)), (SHAPE, 6, ["a", "b", "B"], 3))
        self.is_bool(False, SAY.may_be_empty)
        self.assertEqual(SAY.text(), "((a or b) then (again B))")
        self.assertEqual(repr(Saying(("then", "a", "B"))), "Saying(('then', 'a', 'B'))")
        self.assertEqual(repr(Saying(tree="a")), "Saying('a')")
        for tree, empty in ((("perhaps", "a"), True), ("a", False), (("again", ("perhaps", "a")), True),
                            (("or", "a", ("perhaps", "b")), True), (("then", ("perhaps", "a"), "b"), False),
                            (("then", ("perhaps", "a"), ("perhaps", "b")), True), (("again", "a"), False),
                            (("then", "a", ("perhaps", "b")), False), (("or", "a", "b"), False)):
            self.is_bool(empty, Saying(tree).may_be_empty)
        told = SAY.leaves()
        told.append("x")
        self.assertEqual(SAY.leaves(), ["a", "b", "B"])

    def test_against_trees(self):
        rng = random.Random(191)
        for _ in range(200):
            tree = small_tree(rng, signs="abcdefABCDEF")
            saying = Saying(tree)
            self.assertEqual(saying.shape, tree)
            self.assertEqual(saying.many_parts, parts_of(tree))
            self.assertEqual((saying.leaves(), len(saying)), (leaves_of(tree), len(leaves_of(tree))))
            self.assertEqual(saying.text(), text_of(tree))
            self.is_bool(slow_empty(tree), saying.may_be_empty)
            self.assertEqual((~saying).shape, turned(tree))
            self.assertEqual(~~saying, saying)
            self.assertEqual(Saying.read(text_of(tree)), saying)

    def test_values_that_are_no_trees(self):
        for value in WRONG_TREES:
            self.refuses(InvalidSaying, {"value": value}, Saying, value)
            self.refuses(InvalidSaying, {"value": value}, lambda: SAY * value)
            self.refuses(InvalidSaying, {"value": value}, lambda: SAY | value)
        for value in otherwise(SHAPE):
            if is_tree(value):
                self.assertEqual(Saying(value).shape, value)
            else:
                self.refuses(InvalidSaying, {"value": value}, Saying, value)
        for value in ("a", SHAPE, Saying, Question.of("a"), "Saying('a')"):
            self.refuses(InvalidSaying, {"value": value}, lambda: SAY * value)
            self.refuses(InvalidSaying, {"value": value}, lambda: SAY | value)

    def test_equal(self):
        self.assertTrue(SAY == Saying(SHAPE))
        self.assertFalse(SAY != Saying(SHAPE))
        for other in (Saying(("then", ("or", "b", "a"), ("again", "B"))), Saying("a"), SHAPE, SAY.text(), repr(SAY), None,
                      Odd(), 0):
            self.assertFalse(SAY == other)
            self.assertTrue(SAY != other)

    def test_limits(self):
        self.assertEqual((len(Saying(chain(8))), Saying(chain(8)).many_parts), (8, 15))
        self.assertEqual(Saying(nested(14)).many_parts, 15)
        self.too_many("leaves", 8, Saying, chain(9))
        self.too_many("parts", 15, Saying, nested(15))
        self.too_many("parts", 15, Saying, ("again", chain(8)))
        self.too_many("leaves", 8, Saying, nested(3, chain(9)))
        # A tree that is none is told first.
        self.refuses(InvalidSaying, {}, Saying, ("then", chain(9), "g"))
        self.refuses(InvalidSaying, {}, Saying, ("then", "", chain(12)))

    def test_made_of_others(self):
        one, other = Saying("a"), Saying(("or", "B", "c"))
        self.assertEqual((one * other).shape, ("then", "a", ("or", "B", "c")))
        self.assertEqual((other | one).shape, ("or", ("or", "B", "c"), "a"))
        self.assertEqual(other.again().shape, ("again", ("or", "B", "c")))
        self.assertEqual(one.perhaps().shape, ("perhaps", "a"))
        self.assertEqual((one.shape, other.shape), ("a", ("or", "B", "c")))
        four, half = Saying(chain(4)), Saying(nested(7))
        self.assertEqual(len(four * four), 8)
        self.too_many("leaves", 8, lambda: four * Saying(chain(5)))
        self.too_many("leaves", 8, lambda: Saying(chain(5)) | four)
        self.too_many("parts", 15, lambda: half * half)
        self.too_many("parts", 15, lambda: half | half)
        self.too_many("parts", 15, Saying(nested(14)).again)
        self.too_many("parts", 15, Saying(nested(14)).perhaps)

    def test_of(self):
        self.assertEqual(Saying.of("a"), Saying("a"))
        self.assertEqual(Saying.of(word="abc"), Saying(("then", ("then", "a", "b"), "c")))
        self.assertEqual(Saying.of("abcdefab").leaves(), list("abcdefab"))
        for value in wrong_values() + ["A", "aB", "a" * 13]:
            self.refuses(InvalidWord, {"value": value}, Saying.of, value)
        for word in ("a" * 9, "b" * 12):
            self.too_many("leaves", 8, Saying.of, word)


class Read(Case):
    def test_texts_that_are_nearly_right(self):
        good = ["a", "F", "(a then b)", "(a or B)", "(again a)", "(perhaps (again c))", "((a or b) then (again B))"]
        for text in good:
            self.assertEqual(Saying.read(text=text).text(), text)
        wrong = ["", " ", "g", "ab", "()", "(a)", "((a then b))", "(a then b", "a then b", "(a then b) ", " (a then b)",
                 "(a  then b)", "(a then  b)", "( a then b)", "(a then b )", "(again  a)", "(again a )", "(againa)",
                 "(again)", "(again a b)", "(a then b then c)", "(a Then b)", "(a and b)", "(a thenb)", "(athen b)",
                 "(a or)", "(or a b)", "(then a b)", "(again a then b)", "(again (a then b)", "a)", "(a", ")", "(",
                 "(again a)\n", "(perhaps a))", "(perhaps\na)", "((again a) or )", "(a perhaps b)", "(again perhaps a)",
                 "(again again a)", "a b", "aa", "(a then b)(a then b)", "(again (again a)", "(a or or b)", "( then )",
                 "(again ", " then ", " or ", "(perhaps ", "(( then a)", "(a then )", "( or b)", "(again then b)", "(a then again )", "((again a)", "(perhaps ))"]
        for text in wrong:
            self.refuses(InvalidSaying, {"value": text}, Saying.read, text)
        for value in WRONG_TREES + [("then", "a", "b"), SAY, ["a"]]:
            self.refuses(InvalidSaying, {"value": value}, Saying.read, value)

    def test_texts_with_one_sign_otherwise(self):
        trees = {text_of(SHAPE): SHAPE}
        text = text_of(SHAPE)
        for at in range(len(text) + 1):
            for sign in ("", " ", "(", ")", "a", "B", "o", "then ", "or"):
                for told in (text[:at] + sign + text[at:], text[:at] + sign + text[at + 1:]):
                    try:
                        trees[told] = Saying.read(told).shape
                        self.assertTrue(is_tree(trees[told]))
                        self.assertEqual(text_of(trees[told]), told)
                    except InvalidSaying as error:
                        self.assertIs(error.value, told)
        self.assertGreater(len(trees), 4)

    def test_limits(self):
        self.assertEqual(Saying.read(text_of(chain(8))).shape, chain(8))
        self.assertEqual(Saying.read(text_of(nested(14))).shape, nested(14))
        self.too_many("leaves", 8, Saying.read, text_of(chain(9)))
        self.too_many("parts", 15, Saying.read, text_of(nested(15)))
        # As deep, and as wide, as a string can be.
        self.too_many("parts", 15, Saying.read, "(again " * 2400 + "a" + ")" * 2400)
        self.too_many("leaves", 8, Saying.read, "(" * 2000 + "a" + " or b)" * 2000)
        for text in ("(again " * 2400 + "a" + ")" * 2399, "(again " * 2400 + ")" * 2400, "(" * 20000, ")" * 20000,
                     "a" * 20000):
            self.refuses(InvalidSaying, {"value": text}, Saying.read, text)


class Told(Case):
    def test_ordinary(self):
        self.assertEqual(said(FORK, SAY), [(0, 1), (0, 2), (1, 1), (1, 2), (2, 1), (2, 2)])
        self.assertEqual(said(store=FORK, saying=Saying(("perhaps", "a"))), [(0, 0), (0, 1), (0, 2), (1, 1), (2, 2)])
        self.assertEqual(said(FORK, Saying("A")), [(1, 0), (2, 0)])
        self.assertEqual(said(Store(2), Saying(("again", "a"))), [])

    def test_against_pairs_and_questions(self):
        rng = random.Random(192)
        for _ in range(150):
            tree = small_tree(rng)
            store = some_store(rng, rng.randint(1, 5), rng.randint(0, 9), "ab")
            found = said(store, Saying(tree))
            self.assertEqual(found, sorted(slow_said(store.nodes, set(store.ties()), tree)))
            self.assertEqual(asked(store, question_of(Saying(tree))), found)
            self.assertEqual(said(store, ~Saying(tree)), sorted((y, x) for x, y in found))

    def test_standings_of_the_question(self):
        self.assertEqual(question_of(Saying("a")), Question(2, [(0, "a", 1)], [1]))
        self.assertEqual(question_of(saying=Saying(("again", "a"))), Question(2, [(0, "a", 1), (1, "a", 1)], [1]))
        self.assertEqual(question_of(Saying(("perhaps", ("again", "a")))), Question(1, [(0, "a", 0)], [0]))
        self.assertEqual(question_of(Saying(("or", "a", "b"))), Question(2, [(0, "a", 1), (0, "b", 1)], [1]))
        self.assertEqual(question_of(Saying(("or", ("then", "a", "b"), ("then", "c", "b")))),
                         Question(3, [(0, "a", 1), (0, "c", 1), (1, "b", 2)], [2]))
        self.assertEqual(question_of(Saying(("then", ("perhaps", "a"), "B"))),
                         Question(3, [(0, "B", 2), (0, "a", 1), (1, "B", 2)], [2]))
        rng = random.Random(193)
        less = 0
        for _ in range(300):
            tree = small_tree(rng, signs="abA", more=0.4)
            standings, steps, ends = slow_question(tree)
            question = question_of(Saying(tree))
            self.assertEqual((question.standings, question.steps(), question.ends()), (standings, steps, ends))
            less += standings < len(leaves_of(tree)) + 1
        self.assertGreater(less, 50)

    def test_eight_leaves(self):
        wide = ("then", ("then", ("or", "a", "b"), ("or", "c", "d")), ("then", ("or", "e", "f"), ("or", "A", "B")))
        self.assertEqual(question_of(Saying(wide)).standings, 5)
        self.assertEqual(question_of(Saying.of("abcdefab")).standings, 9)
        store = Store(40, [(x, letter, (x + at) % 40) for at, letter in enumerate("abcdef") for x in range(40)])
        told = said(store, Saying(wide))
        self.assertEqual(told, sorted(slow_said(40, set(store.ties()), wide)))


class Apart(Case):
    def test_ordinary(self):
        once, thrice = Saying("a"), Saying(("then", ("then", "a", "A"), "a"))
        self.is_bool(True, says_within(once, thrice))
        self.is_bool(False, says_within(one=thrice, other=once))
        self.is_bool(False, says_alike(once, thrice))
        self.assertIsNone(says_apart(once, thrice))
        self.assertEqual(says_apart(one=thrice, other=once), "aAa")
        more = ("or", "a", ("then", ("then", "a", "A"), "a"))
        self.is_bool(True, says_alike(one=Saying(more), other=thrice))
        self.is_bool(True, says_alike(Saying(("again", ("again", "a"))), Saying(("again", "a"))))

    def test_as_their_questions(self):
        rng = random.Random(194)
        kinds = {}
        for _ in range(150):
            one, other = (Saying(small_tree(rng, 4, "aA", 0.2)) for _ in range(2))
            questions = question_of(one), question_of(other)
            for call, plain in ((says_within, lies_within), (says_alike, are_alike), (says_apart, parting)):
                try:
                    told = plain(*questions)
                except TooMany as error:
                    self.too_many(error.what, error.limit, call, one, other)
                    told = error.what
                else:
                    self.assertEqual(call(one, other), told)
                kinds[call, type(told)] = True
        self.assertGreater(len(kinds), 5)

    def test_against_stores(self):
        rng = random.Random(195)
        for _ in range(80):
            one, other = (Saying(small_tree(rng, 2, "abA", 0.3)) for _ in range(2))
            within = says_within(one, other)
            for _ in range(5):
                store = some_store(rng, rng.randint(1, 4), rng.randint(0, 8), "ab")
                if within:
                    self.assertLessEqual(set(said(store, one)), set(said(store, other)))
            apart = says_apart(one, other)
            self.assertEqual(apart is None, within)
            if apart is not None:
                questions = question_of(one), question_of(other)
                for signs in all_strings(min(len(apart), 3), "ABab"):
                    if len(signs) < len(apart):
                        self.assertFalse(slow_reads(questions[0], signs) and slow_parts(*questions, signs))

    def test_too_many_standings(self):
        long = Saying.of("abcd")
        for call in (says_within, says_alike, says_apart):
            self.too_many("standings", 4, call, long, Saying("a"))
            self.too_many("standings", 4, call, Saying("a"), long)
        self.is_bool(False, says_within(Saying.of("abc"), Saying("a")))


if __name__ == "__main__":
    unittest.main()
