"""What the tests share: wrong values, a look at errors, and slow, plain ways to the same results."""

import itertools
import unittest

LETTERS = "abcdef"
SIGNS = "ABCDEFabcdef"


class Odd:
    """A value of no kind that the program knows, and that cannot be a key."""

    __hash__ = None


class Same:
    """A value that calls itself equal to all others."""

    def __eq__(self, other):
        return True

    def __hash__(self):
        return 1


def wrong_values():
    """Values of many kinds, new ones at each call."""
    return [
        None, True, False, -1, 41, 10 ** 20, "", "x", "A", "ab ", "\n", b"a", (), [], {}, {"a": 1}, {1},
        [None], [[]], ([],), (0, "a"), (0, "a", 1, 2), [0, "a", 1], (True, "a", 0), (0, "a", True), (0, "ab", 1),
        (0, 1, 7), ("a", 0, 1), ((0, "a", 1),), Odd(), Same(), object, len,
    ]


class Case(unittest.TestCase):
    """A test case that looks at the attributes of errors."""

    def refuses(self, error, attributes, call, *args, **more):
        """The call raises just this error, with these very values."""
        with self.assertRaises(error) as caught:
            call(*args, **more)
        self.assertIs(type(caught.exception), error)
        for name, value in attributes.items():
            same = self.assertEqual if name == "position" else self.assertIs
            same(getattr(caught.exception, name), value, name)

    def too_many(self, what, limit, call, *args):
        """The call raises TooMany of just this."""
        from netkeep.errors import TooMany
        with self.assertRaises(TooMany) as caught:
            call(*args)
        self.assertEqual((caught.exception.what, caught.exception.limit), (what, limit))

    def is_bool(self, expected, value):
        """The value is this very bool."""
        self.assertIs(value, expected)


def all_words(longest, letters=LETTERS):
    """All words of at most so many letters, shorter ones first."""
    return ["".join(word) for k in range(1, longest + 1) for word in itertools.product(letters, repeat=k)]


def all_strings(longest, signs=SIGNS):
    """All strings of at most so many signs, shorter ones first, the empty one, too."""
    return ["".join(word) for k in range(longest + 1) for word in itertools.product(signs, repeat=k)]


def all_walks(nodes, ties, word):
    """All walks with the word, one by one."""
    walks = [[x] for x in range(nodes)]
    for letter in word:
        walks = [walk + [y] for walk in walks for y in range(nodes) if (walk[-1], letter, y) in ties]
    return walks


def some_store(rng, nodes, many, letters):
    """A store with some ties, as the random source tells."""
    from netkeep.store import Store
    ties = [(x, letter, y) for x in range(nodes) for letter in letters for y in range(nodes)]
    return Store(nodes, rng.sample(ties, min(many, len(ties))))


def some_question(rng, standings, many, signs):
    """A question with some steps and ends, as the random source tells."""
    from netkeep.questions import Question
    steps = [(p, sign, q) for p in range(standings) for sign in signs for q in range(standings)]
    ends = rng.sample(range(standings), rng.randint(1, standings))
    return Question(standings, rng.sample(steps, min(many, len(steps))), ends)


def some_rules(rng, many, letters):
    """Some unlike rules, as the random source tells."""
    found = []
    while len(found) < many:
        word = "".join(rng.choice(letters) for _ in range(rng.randint(1, 3)))
        rule = (word, rng.choice(letters))
        if rule not in found:
            found.append(rule)
    return found


def moves(nodes, ties, steps, place):
    """The places to which a step of a question leads from a place in a store."""
    node, standing = place
    found = set()
    for p, sign, q in steps:
        if p == standing:
            for other in range(nodes):
                tie = (node, sign, other) if sign.islower() else (other, sign.lower(), node)
                if tie in ties:
                    found.add((other, q))
    return found


def come_to(nodes, ties, steps, place):
    """All places that are come to from one."""
    found = {place}
    queue = [place]
    while queue:
        for further in moves(nodes, ties, steps, queue.pop()):
            if further not in found:
                found.add(further)
                queue.append(further)
    return found


def slow_asked(nodes, ties, question):
    """The answer of a question, place by place."""
    found = set()
    for x in range(nodes):
        places = come_to(nodes, ties, question.steps(), (x, 0))
        found.update((x, y) for y, standing in places if standing in question.ends())
    return sorted(found)


def row_ties(signs):
    """The ties of the row of a string of signs."""
    return {(at, sign, at + 1) if sign.islower() else (at + 1, sign.lower(), at) for at, sign in enumerate(signs)}


def slow_reads(question, signs):
    """Whether a question reads a string."""
    standings = {0}
    for sign in signs:
        standings = {q for p, way, q in question.steps() if p in standings and way == sign}
    return bool(standings & set(question.ends()))


def slow_parts(one, other, signs):
    """Whether the string parts one question from the other one."""
    if not slow_reads(one, signs):
        return False
    places = come_to(len(signs) + 1, row_ties(signs), other.steps(), (0, 0))
    return not any((len(signs), end) in places for end in other.ends())


def slow_wanted(nodes, ties, rules):
    """The wanted ties, walk by walk."""
    found = set()
    for word, letter in rules:
        for walk in all_walks(nodes, ties, word):
            found.add((walk[0], letter, walk[-1]))
    return found - set(ties)


def slow_rounds(nodes, ties, rules):
    """The list of what comes in with each round."""
    there = set(ties)
    found = []
    while slow_wanted(nodes, there, rules):
        found.append(slow_wanted(nodes, there, rules))
        there |= found[-1]
    return found


def slow_filled(nodes, ties, rules):
    """The ties of the filled store."""
    return set(ties).union(*slow_rounds(nodes, ties, rules))


def slow_is_trace(ties, rules, tie, lines):
    """Whether lines are a trace of the tie, line by line."""
    for place, (told, positions) in enumerate(lines):
        if not positions:
            if told not in ties:
                return False
            continue
        if max(positions) >= place or min(positions) < 0:
            return False
        taken = [lines[position][0] for position in positions]
        if any(one[2] != other[0] for one, other in zip(taken, taken[1:])):
            return False
        if (taken[0][0], taken[-1][2]) != (told[0], told[2]):
            return False
        if ("".join(one[1] for one in taken), told[1]) not in rules:
            return False
    return bool(lines) and lines[-1][0] == tie


def otherwise(value):
    """The value with one part of it, at any depth, another one, left out, or told twice."""
    yield from wrong_values()
    if type(value) in (list, tuple):
        parts = list(value)
        made = type(value)
        for at, part in enumerate(parts):
            for other in otherwise(part):
                yield made(parts[:at] + [other] + parts[at + 1:])
            yield made(parts[:at] + parts[at + 1:])
            yield made(parts[:at + 1] + parts[at:])
    elif type(value) is dict:
        for key, part in value.items():
            for other in otherwise(part):
                yield {**value, key: other}
            yield {one: value[one] for one in value if one != key}
        for other in (None, True, 0, "x", "a", (), (0, 1), Same(), b"a"):
            if other not in value:
                yield {**value, other: next(iter(value.values()), [])}
    elif type(value) is int:
        yield from (value + 1, value - 1, -value - 1)
    elif type(value) is str:
        yield from (value + "a", value[:-1], value[::-1], "ab", "b", "c", value.upper())


def same(one, other):
    """Whether two values look the same, kinds of values included, tuples for lists allowed."""
    return repr(one).replace("[", "(").replace("]", ",)") == repr(other).replace("[", "(").replace("]", ",)")


def subsets(values):
    """All lists of some of the values, in their sequence, shorter ones first."""
    values = list(values)
    return [list(some) for many in range(len(values) + 1) for some in itertools.combinations(values, many)]


def slow_bridges(words, word):
    """All bridges of a word."""
    return sorted((i, j, word[i:j]) for i in range(len(word) + 1) for j in range(i + 1, len(word) + 1)
                  if word[i:j] in words)


def slow_settles(words, word):
    """Whether the words settle the word: by places that grow until none comes to them."""
    places = {0}
    while True:
        more = {q for i, j, _ in slow_bridges(words, word) for p, q in ((i, j), (j, i)) if p in places} - places
        if not more:
            return len(word) in places
        places |= more


def slow_is_plan(words, word, value):
    """Whether a value is a plan, step by step."""
    if type(value) not in (list, tuple):
        return False
    place = 0
    able = [(i, w, j) for i, j, w in slow_bridges(words, word)] + [(j, w, i) for i, j, w in slow_bridges(words, word)]
    for step in value:
        if type(step) is not tuple or [type(part) for part in step] != [int, str, int] or step not in able:
            return False
        if step[0] != place:
            return False
        place = step[2]
    return len(value) > 0 and place == len(word)


def slow_is_cut(words, word, value):
    """Whether a value is a cut, bridge by bridge."""
    if type(value) not in (list, tuple) or any(type(place) is not int for place in value):
        return False
    if list(value) != sorted(set(value)) or not set(value) <= set(range(len(word))) or 0 not in value:
        return False
    return all((i in value) == (j in value) for i, j, _ in slow_bridges(words, word))


def slow_stretches(word, letter):
    """The unlike stretches of a word: by all of its parts."""
    found = set()
    for i in range(len(word) + 1):
        for j in range(i, len(word) + 1):
            begins = i == 0 or word[i - 1] == letter
            ends = j == len(word) or word[j] == letter
            if begins and ends and (i, j) != (0, len(word)):
                found.add(word[i:j])
    return sorted(found, key=lambda part: (len(part), part))


def slow_keeps_up(words, letter):
    """Whether words keep themselves up for a letter."""
    return all(slow_settles(words, part) for word in words for part in slow_stretches(word, letter))


def some_words(rng, many, letters, longest):
    """Some unlike words, as the random source tells."""
    found = []
    while len(found) < many:
        word = "".join(rng.choice(letters) for _ in range(rng.randint(1, longest)))
        if word not in found:
            found.append(word)
    return found


def as_words(words):
    """What words are sorted by."""
    return [(len(word), word) for word in words]
