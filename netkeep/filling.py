"""What rules put into a store, round by round, and the traces of it."""

from netkeep.errors import InvalidRules, TooMany
from netkeep.masks import bits, goal_rows, least_bit, led, source_rows
from netkeep.ties import first_wrong, is_list
from netkeep.words import LETTERS, is_letter, is_word

MOST_RULES = 4
LONGEST_RULE = 3


def fits_rule(value):
    """Whether it is a tuple of a word of one to three letters and a letter."""
    if not isinstance(value, tuple) or len(value) != 2:
        return False
    return is_word(value[0]) and len(value[0]) <= LONGEST_RULE and is_letter(value[1])


def need_rules(rules):
    """Refuse what is no list of unlike rules."""
    if not is_list(rules):
        raise InvalidRules(None)
    wrong = first_wrong(rules, [fits_rule(rule) for rule in rules])
    if wrong is not None:
        raise InvalidRules(wrong)


def need_few(rules):
    """Refuse too many rules; the errors of all parameters come first."""
    if len(rules) > MOST_RULES:
        raise TooMany("rules", MOST_RULES)


class Filling:
    """Ties that grow by rules, round by round; each tie keeps its round and the ties that put it in."""

    def __init__(self, nodes, ties, rules):
        self.rounds = {tie: 0 for tie in ties}
        self.causes = {tie: [] for tie in ties}
        self._goals = goal_rows(nodes, ties)
        self._sources = source_rows(nodes, ties)
        self._uses = uses_of(rules)
        self._fresh = list(ties)
        self._done = 0

    def fill(self, goal=None):
        """Put in rounds until none is wanted, or the goal is there."""
        while self._fresh and goal not in self.rounds:
            self.put_round()

    def put_round(self):
        """Put in all wanted ties at once. (Each stands on a tie of the round ahead, else it would be there.)"""
        self.take_in(self.found_now())

    def take_in(self, found):
        """Put in ties at once, each with the ties that one rule takes for it."""
        self._done += 1
        for tie in found:
            x, letter, y = tie
            self.rounds[tie] = self._done
            self.causes[tie] = found[tie]
            self._goals[letter][x] = self._goals[letter][x] | 1 << y
            self._sources[letter][y] = self._sources[letter][y] | 1 << x
        self._fresh = list(found)

    def found_now(self):
        """The ties wanted by what came in last, each with the ties that one rule takes for it."""
        found = {}
        known = {letter: list(self._goals[letter]) for letter in LETTERS}
        for tie in self._fresh:
            for ahead, behind, letter in self._uses[tie[1]]:
                firsts = led(self._sources, 1 << tie[0], ahead[::-1])
                lasts = led(self._goals, 1 << tie[2], behind)
                for x in bits(firsts):
                    lacking = lasts & ~known[letter][x]
                    known[letter][x] = known[letter][x] | lacking
                    for y in bits(lacking):
                        walked = self._walk(x, ahead, tie[0]) + [tie] + self._walk(tie[2], behind, y)
                        found[x, letter, y] = walked
        return found

    def _walk(self, x, word, y):
        """The ties of a walk from x to y, with a word of at most two letters."""
        if len(word) < 2:
            return [(x, letter, y) for letter in word]
        middle = least_bit(self._goals[word[0]][x] & self._sources[word[1]][y])
        return [(x, word[0], middle), (middle, word[1], y)]

    def trace(self, ties):
        """The trace that has some ties and all that put them in, each tie once, ties of earlier rounds first."""
        needed = {}
        left = list(ties)
        while left:
            tie = left.pop()
            if tie not in needed:
                needed[tie] = True
                left.extend(self.causes[tie])
        ordered = sorted(needed, key=lambda one: (self.rounds[one], one))
        places = {tie: place for place, tie in enumerate(ordered)}
        return [(tie, [places[cause] for cause in self.causes[tie]]) for tie in ordered]


def uses_of(rules):
    """For each letter, wherever it stands in a rule's word: what is ahead and behind, and the rule's letter."""
    uses = {letter: [] for letter in LETTERS}
    for word, goal in rules:
        for place, letter in enumerate(word):
            uses[letter].append((word[:place], word[place + 1:], goal))
    return uses


def filling_of(nodes, ties, rules, goal=None):
    """The filling of so many nodes with some ties; with a goal it ends as soon as this tie is there."""
    filling = Filling(nodes, ties, rules)
    filling.fill(goal)
    return filling


def trace_in(nodes, ties, rules, goal):
    """A trace of the goal in which no two lines have one tie; None if there is none."""
    filling = filling_of(nodes, ties, rules, goal)
    if goal not in filling.rounds:
        return None
    return filling.trace([goal])


def put_in_sequence(nodes, ties, rules, most):
    """The ties that come in if the first wanted one, sorted, is put in again and again; refused beyond most ties."""
    filling = Filling(nodes, ties, rules)
    wanted = filling.found_now()
    found = []
    while wanted:
        tie = min(wanted)
        found.append(tie)
        if len(ties) + len(found) > most:
            raise TooMany("ties", most)
        filling.take_in({tie: wanted.pop(tie)})
        wanted.update(filling.found_now())
    return found
