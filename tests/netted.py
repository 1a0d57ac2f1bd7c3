"""What the tests of nets share: a slow, plain net to hold them against, and commands as the random source tells."""

import re

from coded import slow_word
from spoken import slow_said, text_of
from support import slow_keeps_up, slow_settles, slow_wanted

NODE, LETTER, WORD, NAME = "(0|[1-9][0-9]*)", "([a-f])", "([a-f]{1,12})", "([a-z]{1,8})"
FORMS = {
    "put": (NODE, LETTER, NODE), "strike": (NODE, LETTER, NODE), "fill": (), "rule": (WORD, LETTER),
    "unrule": (WORD, LETTER), "keep": (WORD,), "drop": (WORD,), "refresh": (), "grant": (NAME, WORD),
    "revoke": (NAME, WORD), "hide": (WORD,), "show": (WORD,), "undo": (), "redo": (), "ask": (NAME, WORD),
    "told": (WORD,), "say": ("(.*)",), "wanted": (), "up": (), "late": (),
}
CHANGES = list(FORMS)[:12]


class Refused(Exception):
    """A command is refused: the name of the error, and its attribute."""


def by_length(words):
    return sorted(words, key=lambda word: (len(word), word))


def slow_counts(nodes, ties, word):
    """The matrix of a word, letter by letter."""
    lines = [[int(x == y) for y in range(nodes)] for x in range(nodes)]
    for letter in word:
        lines = [[sum(line[z] for z in range(nodes) if (z, letter, y) in ties) for y in range(nodes)] for line in lines]
    return lines


def slow_answer(nodes, ties, word, telling):
    if telling == "whether":
        return sorted(slow_word(nodes, ties, word))
    return slow_counts(nodes, ties, word)


def slow_text(answer, telling):
    """The text of an answer."""
    if telling == "whether":
        found = [f"{x}-{y}" for x, y in answer]
    else:
        found = [f"{x}-{y}*{number}" for x, line in enumerate(answer) for y, number in enumerate(line) if number]
    return " ".join(found) or "none"


class SlowNet:
    """A net that works all out anew: its tables are the answers of the ties at the moment of which they tell."""

    def __init__(self, nodes, ties, telling):
        self.nodes, self.telling = nodes, telling
        ties = frozenset(ties)
        self.now = {"ties": ties, "then": ties, "late": 0, "rules": (), "words": (), "readers": (), "secrets": ()}
        self.past, self.future, self.log = [], [], []

    def parts(self):
        """All that can be seen of it."""
        now = self.now
        return {
            "ties": sorted(now["ties"]), "rules": list(now["rules"]), "words": by_length(now["words"]),
            "tables": {word: slow_answer(self.nodes, now["then"], word, self.telling) for word in by_length(now["words"])},
            "late": now["late"], "readers": {name: by_length(words) for name, words in sorted(now["readers"])},
            "secrets": by_length(now["secrets"]), "changes": len(self.past), "log": list(self.log),
        }

    def do(self, command):
        answer = self.work(command)
        if command.split(" ")[0] in CHANGES + ["undo", "redo"]:
            self.log.append(command)
        return answer

    def do_all(self, *commands):
        held = self.now, list(self.past), list(self.future)
        answers = []
        for position, command in enumerate(commands):
            try:
                answers.append(self.work(command))
            except Refused as error:
                self.now, self.past, self.future = held
                raise Refused("CommandFailed", position, *error.args) from error
        lines = [command for command in commands if command.split(" ")[0] in CHANGES + ["undo", "redo"]]
        if lines:
            self.log.append(lines[0] if len(lines) == 1 else tuple(lines))
        return answers

    def work(self, command):
        first = command.split(" ")[0]
        if first not in FORMS or not re.fullmatch(" ".join((first, *FORMS[first])), command):
            raise Refused("InvalidCommand", command)
        words = re.fullmatch(" ".join((first, *FORMS[first])), command).groups()
        if first not in CHANGES:
            return str(getattr(self, first)(*words))
        now, answer = getattr(self, first)(*words)
        self.past.append(self.now)
        self.future.clear()
        self.now = now
        return str(answer)

    def turn(self, now, tie, ties):
        """What becomes of the parts behind a tie that was put in, or struck."""
        letter, put = tie[1], tie in ties
        told = all(letter not in word for word in now["words"]) or (
            slow_keeps_up(now["words"], letter) and (put or self.telling == "many"))
        if now["late"] == 0 and told:
            return {**now, "ties": ties, "then": ties}
        return {**now, "ties": ties, "late": now["late"] + 1}

    def tie(self, x, letter, y):
        tie = (int(x), letter, int(y))
        if max(tie[0], tie[2]) >= self.nodes:
            raise Refused("InvalidTie", tie)
        return tie

    def put(self, *words):
        tie = self.tie(*words)
        if tie in self.now["ties"]:
            return self.now, "idle"
        if len(self.now["ties"]) == 400:
            raise Refused("TooMany", "ties")
        return self.turn(self.now, tie, self.now["ties"] | {tie}), "done"

    def strike(self, *words):
        tie = self.tie(*words)
        if tie not in self.now["ties"]:
            return self.now, "idle"
        return self.turn(self.now, tie, self.now["ties"] - {tie}), "done"

    def fill(self):
        now, many = self.now, 0
        while slow_wanted(self.nodes, now["ties"], now["rules"]):
            tie = min(slow_wanted(self.nodes, now["ties"], now["rules"]))
            if len(now["ties"]) == 400:
                raise Refused("TooMany", "ties")
            now, many = self.turn(now, tie, now["ties"] | {tie}), many + 1
        return now, many

    def rule(self, word, letter):
        if len(word) > 3:
            raise Refused("InvalidRule", (word, letter))
        if (word, letter) in self.now["rules"]:
            return self.now, "idle"
        if len(self.now["rules"]) == 4:
            raise Refused("TooMany", "rules")
        return {**self.now, "rules": self.now["rules"] + ((word, letter),)}, "done"

    def unrule(self, word, letter):
        if len(word) > 3:
            raise Refused("InvalidRule", (word, letter))
        left = tuple(rule for rule in self.now["rules"] if rule != (word, letter))
        return {**self.now, "rules": left}, "idle" if left == self.now["rules"] else "done"

    def keep(self, word):
        if word in self.now["words"]:
            return self.now, "idle"
        if len(self.now["words"]) == 8:
            raise Refused("TooMany", "words")
        return {**self.now, "words": self.now["words"] + (word,), "then": self.now["ties"], "late": 0}, "done"

    def drop(self, word):
        if word not in self.now["words"]:
            raise Refused("UnknownWord", word)
        return {**self.now, "words": tuple(one for one in self.now["words"] if one != word)}, "done"

    def refresh(self):
        return {**self.now, "then": self.now["ties"], "late": 0}, self.now["late"]

    def grant(self, name, word):
        readers = dict(self.now["readers"])
        words = readers.get(name, ())
        if word in words:
            return self.now, "idle"
        for secret in by_length(self.now["secrets"]):
            if slow_settles(words + (word,), secret):
                raise Refused("GivenAway", secret)
        if len(words) == 8:
            raise Refused("TooMany", "words")
        if name not in readers and len(readers) == 4:
            raise Refused("TooMany", "readers")
        readers[name] = words + (word,)
        return {**self.now, "readers": tuple(readers.items())}, "done"

    def revoke(self, name, word):
        readers = dict(self.now["readers"])
        if name not in readers:
            raise Refused("UnknownReader", name)
        if word not in readers[name]:
            raise Refused("UnknownWord", word)
        readers[name] = tuple(one for one in readers[name] if one != word)
        return {**self.now, "readers": tuple((one, words) for one, words in readers.items() if words)}, "done"

    def hide(self, word):
        if word in self.now["secrets"]:
            return self.now, "idle"
        for name, words in sorted(self.now["readers"]):
            if slow_settles(words, word):
                raise Refused("GivenAway", name)
        if len(self.now["secrets"]) == 4:
            raise Refused("TooMany", "secrets")
        return {**self.now, "secrets": self.now["secrets"] + (word,)}, "done"

    def show(self, word):
        if word not in self.now["secrets"]:
            raise Refused("UnknownWord", word)
        return {**self.now, "secrets": tuple(one for one in self.now["secrets"] if one != word)}, "done"

    def undo(self):
        if not self.past:
            raise Refused("NothingToUndo")
        self.future.append(self.now)
        self.now = self.past.pop()
        return len(self.past)

    def redo(self):
        if not self.future:
            raise Refused("NothingToRedo")
        self.past.append(self.now)
        self.now = self.future.pop()
        return len(self.past)

    def ask(self, name, word):
        readers = dict(self.now["readers"])
        if name not in readers:
            raise Refused("UnknownReader", name)
        if word not in readers[name]:
            raise Refused("NotGranted", word)
        return slow_text(slow_answer(self.nodes, self.now["ties"], word, self.telling), self.telling)

    def told(self, word):
        if not slow_settles(self.now["words"], word):
            raise Refused("NotSettled", word)
        return slow_text(slow_answer(self.nodes, self.now["then"], word, self.telling), self.telling)

    def say(self, text):
        tree = read(text)
        if tree is None:
            raise Refused("InvalidCommand", "say " + text)
        return slow_text(sorted(slow_said(self.nodes, self.now["ties"], tree)), "whether")

    def wanted(self):
        found = sorted(slow_wanted(self.nodes, self.now["ties"], self.now["rules"]))
        return " ".join(f"{x}-{letter}-{y}" for x, letter, y in found) or "none"

    def up(self):
        return "".join(letter for letter in "abcdef" if slow_keeps_up(self.now["words"], letter)) or "none"

    def late(self):
        return self.now["late"]


TREES = ["a", "B", ("again", "a"), ("perhaps", "b"), ("then", "a", "B"), ("or", ("again", "b"), "A"),
         ("then", ("perhaps", "a"), ("or", "b", ("then", "a", "a")))]


def read(text):
    """The tree of a text, of those above; None otherwise."""
    return dict(zip(map(text_of, TREES), TREES)).get(text)


def some_command(rng, nodes):
    """A command, as the random source tells; a few of them are none, or of ties and words that are none."""
    first = rng.choice(list(FORMS) + ["put", "put", "put", "strike", "keep", "told", "grant", "undo", "redo"])
    parts = {
        NODE: lambda: str(rng.randrange(nodes + (rng.random() < 0.05))),
        LETTER: lambda: rng.choice("aab"),
        WORD: lambda: rng.choice(("a", "b", "ab", "ba", "aab", "abb", "aa", "abab")),
        NAME: lambda: rng.choice(("ann", "bob", "cy", "dora", "eve")),
        "(.*)": lambda: text_of(rng.choice(TREES)),
    }
    command = " ".join([first] + [parts[form]() for form in FORMS[first]])
    return command if rng.random() > 0.02 else rng.choice((command + " a", command + " ", command[:-1], command.upper()))
