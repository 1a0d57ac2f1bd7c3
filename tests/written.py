"""What the tests of texts share: slow, plain ways to find the wrong line, and texts that are otherwise."""

import re

NUMBER = r"(0|[1-9][0-9]*)"
WORD = r"[a-f]{1,12}"


def numbers(text):
    return [int(part) for part in text.split()]


def slow_store(lines):
    """The number of the first line that cannot stand in the text of a store, None if all can, and what lacks."""
    ties = []
    for at, line in enumerate(lines, 1):
        if at == 1:
            found = re.fullmatch(f"store {NUMBER}", line)
            if not found or not 1 <= int(found[1]) <= 40:
                return 1
            nodes = int(found[1])
            continue
        found = re.fullmatch(f"tie {NUMBER} ([a-f]) {NUMBER}", line)
        if not found or max(int(found[1]), int(found[3])) >= nodes or len(ties) == 400:
            return at
        ties.append((int(found[1]), found[2], int(found[3])))
        if ties != sorted(set(ties)):
            return at
    return None if lines else 1


def slow_question(lines):
    steps = []
    for at, line in enumerate(lines, 1):
        if at == 1:
            found = re.fullmatch(f"question {NUMBER}((?: {NUMBER})*)", line)
            if not found or not 1 <= int(found[1]) <= 9:
                return 1
            standings, ends = int(found[1]), numbers(found[2])
            if ends != sorted(set(ends)) or any(end >= standings for end in ends):
                return 1
            continue
        found = re.fullmatch(f"step {NUMBER} ([a-fA-F]) {NUMBER}", line)
        if not found or max(int(found[1]), int(found[3])) >= standings:
            return at
        steps.append((int(found[1]), found[2], int(found[3])))
        if steps != sorted(set(steps)):
            return at
    return None if lines else 1


def slow_rules(lines):
    rules = []
    for at, line in enumerate(lines, 1):
        if at == 1:
            if line != "rules":
                return 1
            continue
        if not re.fullmatch("rule [a-f]{1,3} [a-f]", line) or line in rules or at > 5:
            return at
        rules.append(line)
    return None if lines else 1


def slow_lot(lines):
    for at, line in enumerate(lines, 1):
        if at > 1 or not re.fullmatch(f"lot((?: {WORD})*)", line):
            return at
        words = line.split(" ")[1:]
        if len(words) > 8 or words != sorted(set(words), key=lambda word: (len(word), word)):
            return 1
    return None if lines else 1


def slow_kind(lines):
    marks = []
    for at, line in enumerate(lines, 1):
        if at == 1:
            if not re.fullmatch("kind [1-5]", line):
                return 1
            continue
        if not re.fullmatch(f"(?:there|gone)(?: {NUMBER}){{{lines[0][-1]}}}", line) or at > 13:
            return at
        marks.append(numbers(line.split(" ", 1)[1]))
        if max(marks[-1]) > 11:
            return at
    if not marks or max(map(max, marks)) >= len(marks):
        return len(lines) + 1
    return None


SLOW = {"store": slow_store, "question": slow_question, "rules": slow_rules, "lot": slow_lot, "kind": slow_kind}


def slow_wrong_line(kind, text):
    """The number of the wrong line of a string; None if it is a text."""
    *lines, rest = text.split("\n")
    wrong = SLOW[kind](lines)
    if rest and (wrong is None or wrong > len(lines)):
        return len(lines) + 1
    return wrong


def texts_otherwise(text):
    """The text with one line or sign more, less, otherwise, exchanged, or twice."""
    lines = text.split("\n")[:-1]
    for at in range(len(lines)):
        yield "".join(line + "\n" for line in lines[:at] + lines[at + 1:])
        yield "".join(line + "\n" for line in lines[:at + 1] + lines[at:])
        yield "".join(line + "\n" for line in lines[:at] + [""] + lines[at:])
        for other in range(at):
            changed = list(lines)
            changed[at], changed[other] = lines[other], lines[at]
            yield "".join(line + "\n" for line in changed)
        words = lines[at].split(" ")
        for place in range(len(words)):
            for some in (words[:place] + words[place + 1:], words[:place + 1] + words[place:],
                         words[:place] + words[place + 1:place + 2] + words[place:place + 1] + words[place + 2:],
                         words[:place] + ["0" + words[place]] + words[place + 1:]):
                yield "".join(line + "\n" for line in lines[:at] + [" ".join(some)] + lines[at + 1:])
    for at in range(len(text)):
        yield text[:at] + text[at + 1:]
        yield text[:at]
        yield text[:at + 1] + text[at:]
        yield text[:at] + text[at + 1:at + 2] + text[at] + text[at + 2:]
        for sign in (" ", "\n", "0", "1", "7", "12", "99", "9" * 30, "-", "a", "f", "g", "A", "store", "~"):
            yield text[:at] + sign + text[at + 1:]
            yield text[:at] + sign + text[at:]
    for more in ("\n", " ", "\n\n", "a", "tie 0 a 0\n", "step 0 a 0\n", "rule a b\n", "lot\n", "gone 0\n", "there 0\n", "0"):
        yield text + more
        yield more + text
