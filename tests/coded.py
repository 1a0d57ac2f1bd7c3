"""What the tests of code share: code as the random source tells, and slow, plain ways to run it."""

from spoken import again, backed, joined, signed
from support import slow_bridges

READS = {"then": 2, "or": 2, "back": 2, "again": 1, "perhaps": 1}
KEPT = ("keep", "keep", "then", "back")
ALL = ("load", "keep", "then", "or", "back", "again", "perhaps")
SAID = ("load", "load", "then", "or", "again", "perhaps")


def some_lines(rng, many, kinds=ALL, words=("a", "ab", "b"), signs="abAB", registers=4):
    """So many lines, as the random source tells."""
    lines, written = [], []
    firsts = [kind for kind in kinds if kind not in READS]
    while len(lines) < many:
        kind = rng.choice(kinds if written else firsts)
        place = rng.randrange(registers)
        if kind in READS:
            lines.append((kind, place, *[rng.choice(written) for _ in range(READS[kind])]))
        else:
            lines.append((kind, place, rng.choice(signs if kind == "load" else words)))
        written.append(place)
    return lines


def slow_reads(lines):
    """For each line the positions of the lines whose tables it reads: the last ones ahead that write there."""
    return [[max(ahead for ahead in range(at) if lines[ahead][1] == place) for place in line[2:]]
            if line[0] in READS else [] for at, line in enumerate(lines)]


def slow_run(nodes, lines, ties=None, kept=None):
    """The tables that lines write, sets of pairs; kept answers are those of the ties, or told."""
    tables = []
    for line, places in zip(lines, slow_reads(lines)):
        read = [tables[place] for place in places]
        if line[0] == "load":
            tables.append(signed(ties, line[2]))
        elif line[0] == "keep" and kept is not None:
            tables.append(set(kept[line[2]]))
        elif line[0] == "keep":
            tables.append(slow_word(nodes, ties, line[2]))
        elif line[0] == "then":
            tables.append(joined(*read))
        elif line[0] == "or":
            tables.append(read[0] | read[1])
        elif line[0] == "back":
            tables.append(backed(nodes, *read))
        else:
            tables.append(again(read[0]) if line[0] == "again" else read[0] | {(x, x) for x in range(nodes)})
    return tables


def slow_word(nodes, ties, word):
    """The pairs of a word, perhaps the empty one."""
    found = {(x, x) for x in range(nodes)}
    for letter in word:
        found = joined(found, signed(ties, letter))
    return found


def slow_trees(lines):
    """The trees of the lines of code without "back"."""
    trees = []
    for line, places in zip(lines, slow_reads(lines)):
        if line[0] == "load":
            trees.append(line[2])
        elif line[0] == "keep":
            tree = line[2][0]
            for letter in line[2][1:]:
                tree = ("then", tree, letter)
            trees.append(tree)
        else:
            trees.append((line[0], *[trees[place] for place in places]))
    return trees


def slow_in_use(lines):
    """For each line the set of the positions of the lines whose tables are in use behind it."""
    reads = slow_reads(lines)
    return [{at} | {ahead for ahead in range(at) if any(ahead in reads[later] for later in range(at + 1, len(lines)))}
            for at in range(len(lines))]


def slow_places(lines, word):
    """For each line the set of its places."""
    owns, found = [], []
    for line, places in zip(lines, slow_reads(lines)):
        own, there = None, set()
        if line[0] == "keep":
            own = line[2]
        else:
            first, second = places
            for begin in range(len(word) + 1):
                for end in range(begin, len(word) + 1):
                    if owns[second] is not None and word[begin:end] == owns[second]:
                        if line[0] == "then" and begin in found[first]:
                            there.add(end)
                        if line[0] == "back" and end in found[first]:
                            there.add(begin)
            if line[0] == "then" and None not in (owns[first], owns[second]):
                own = owns[first] + owns[second]
                own = own if len(own) <= 12 else None
        if own is not None and word.startswith(own):
            there.add(len(own))
        owns.append(own)
        found.append(there)
    return found


def plan_lines(steps):
    """The lines of the code of a plan."""
    lines = [("keep", 0, steps[0][1])]
    for begin, word, end in steps[1:]:
        lines += [("keep", 1, word), ("then" if end > begin else "back", 0, 0, 1)]
    return lines


def all_plans(words, word, longest):
    """All plans with at most so many steps."""
    bridges = slow_bridges(words, word)
    able = [(i, w, j) for i, j, w in bridges] + [(j, w, i) for i, j, w in bridges]
    ways, found = [[]], []
    for _ in range(longest):
        ways = [way + [step] for way in ways for step in able if step[0] == (way[-1][2] if way else 0)]
        found += [way for way in ways if way[-1][2] == len(word)]
    return found


def slow_price(lines, fares):
    return sum(fares[line[0]] for line in lines)


def slow_cheapest(words, word, fares):
    """The least price of code of a plan, by prices of places that fall until none does; None without one."""
    prices = {0: -fares["then"]}
    while True:
        before = dict(prices)
        for i, j, _ in slow_bridges(words, word):
            for begin, end, kind in ((i, j, "then"), (j, i, "back")):
                if begin in prices:
                    more = prices[begin] + fares["keep"] + fares[kind]
                    prices[end] = min(more, prices.get(end, more))
        if prices == before:
            return prices.get(len(word))


def slow_are_ranks(words, word, fares, number, value):
    """Whether a value is price ranks, as the point says it."""
    if type(value) not in (list, tuple) or len(value) != len(word) + 1:
        return False
    if any(type(rank) is not int or rank < 0 for rank in value):
        return False
    if value[0] != 0 or value[-1] < number + fares["then"]:
        return False
    return all(value[j] - value[i] <= fares["keep"] + fares["then"] and value[i] - value[j] <= fares["keep"] + fares["back"]
               for i, j, _ in slow_bridges(words, word))


def spans_of(word):
    """All parts of a word that are words."""
    return sorted({word[i:j] for i in range(len(word)) for j in range(i + 1, len(word) + 1)})
