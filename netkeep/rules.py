"""Rules that ties obey: what leads to what in all stores, and the papers that show it."""

from netkeep.answers import pairs
from netkeep.checks import need_word
from netkeep.errors import InvalidRule, TooMany
from netkeep.filled import obeys
from netkeep.filling import filling_of, fits_rule, need_few, need_rules
from netkeep.masks import bits, goal_rows, least_bit, led, source_rows, union
from netkeep.store import Store
from netkeep.ties import is_below, is_list, is_pair
from netkeep.traces import go_on, traced
from netkeep.words import LETTERS

MOST_WORDS_FROM = 200


def is_rule(value):
    """Whether any value is a rule."""
    return fits_rule(value)


def leads(rules, word, aim):
    """Whether the word leads to the aim under the rules."""
    _need_words(rules, word, aim)
    return _leads(rules, word, aim)


def leads_paper(rules, word, aim):
    """A leads paper in whose trace no two lines have one tie; None if there is none."""
    _need_words(rules, word, aim)
    if not _leads(rules, word, aim):
        return None
    filling = _filled_row(rules, word)
    ties = _ties_of(list(filling.rounds), len(word), aim)
    lines = filling.trace(ties)
    places = {line[0]: place for place, line in enumerate(lines)}
    return lines, [places[tie] for tie in ties]


def is_leads_paper(rules, word, aim, value):
    """Whether any value is a leads paper."""
    _need_words(rules, word, aim)
    if not isinstance(value, tuple) or len(value) != 2:
        return False
    lines, positions = value
    found = traced(len(word) + 1, Store.row(word).ties(), rules, lines)
    if found is None or not is_list(positions):
        return False
    if not all([is_below(position, len(found)) for position in positions]):
        return False
    ties = [found[position] for position in positions]
    return "".join([letter for _, letter, _ in ties]) == aim and go_on(ties, 0, len(word))


def against(rules, word, aim):
    """An against paper: the filled row of the word and its ends; None if there is none."""
    _need_words(rules, word, aim)
    if _leads(rules, word, aim):
        return None
    return _store_of(rules, word), (0, len(word))


def is_against(rules, word, aim, value):
    """Whether any value is an against paper."""
    _need_words(rules, word, aim)
    if not isinstance(value, tuple) or len(value) != 2 or not isinstance(value[0], Store):
        return False
    store, pair = value
    if not is_pair(pair, store.nodes) or not obeys(store, rules):
        return False
    return pair in pairs(store, word) and pair not in pairs(store, aim)


def words_from(rules, word):
    """The sorted list of the words to which the word leads."""
    _need_word(rules, word)
    goals = _rows_of(rules, word)
    found = []
    layer = [("", 1)]
    while layer:
        layer = [(ahead + letter, union(goals[letter], mask)) for ahead, mask in layer for letter in LETTERS]
        layer = [(ahead, mask) for ahead, mask in layer if mask]
        found.extend([ahead for ahead, mask in layer if mask >> len(word) & 1])
        # From each node the row itself leads on to the last one: each of these strings begins a word.
        if max(len(layer), len(found)) > MOST_WORDS_FROM:
            raise TooMany("words", MOST_WORDS_FROM)
    return found


def shortest(rules, word):
    """The least one of the words to which the word leads."""
    _need_word(rules, word)
    goals = _rows_of(rules, word)
    least = {0: ""}
    while len(word) not in least:
        least = _one_letter_on(goals, least)
    return least[len(word)]


def is_implied(rules, rule):
    """Whether the rules imply the rule."""
    need_rules(rules)
    if not fits_rule(rule):
        raise InvalidRule(rule)
    need_few(rules)
    return _leads(rules, rule[0], rule[1])


def needless(rules):
    """The sorted list of the positions of the rules that are implied by the others."""
    need_rules(rules)
    need_few(rules)
    return [place for place, rule in enumerate(rules) if _leads(_less(rules, place), rule[0], rule[1])]


def fewest_rules(rules):
    """The first one of the shortest lists of some of the rules that are alike to all of them."""
    need_rules(rules)
    need_few(rules)
    choices = sorted([bits(mask) for mask in range(1 << len(rules))], key=lambda choice: (len(choice), choice))
    alike = [choice for choice in choices if _first_lacking(_taken(rules, choice), rules) is None]
    return _taken(rules, alike[0])


def are_alike(rules, others):
    """Whether each rule of each of both lists is implied by the other list."""
    _need_both(rules, others)
    return _first_lacking(rules, others) is None and _first_lacking(others, rules) is None


def parting_store(rules, others):
    """A store that obeys just one of both lists; None if they are alike."""
    _need_both(rules, others)
    for some, wanted in ((rules, others), (others, rules)):
        lacking = _first_lacking(some, wanted)
        if lacking is not None:
            return _store_of(some, lacking[0])
    return None


def is_parting_store(rules, others, value):
    """Whether any value is a store that obeys just one of both lists."""
    _need_both(rules, others)
    return isinstance(value, Store) and obeys(value, rules) != obeys(value, others)


def _need_word(rules, word):
    need_rules(rules)
    need_word(word)
    need_few(rules)


def _need_words(rules, word, aim):
    need_rules(rules)
    need_word(word)
    need_word(aim)
    need_few(rules)


def _need_both(rules, others):
    need_rules(rules)
    need_rules(others)
    need_few(rules)
    need_few(others)


def _filled_row(rules, word):
    return filling_of(len(word) + 1, Store.row(word).ties(), rules)


def _store_of(rules, word):
    """The filled row as a store. (It stays below 400 ties: those put in have at most four letters.)"""
    return Store(len(word) + 1, list(_filled_row(rules, word).rounds))


def _rows_of(rules, word):
    return goal_rows(len(word) + 1, list(_filled_row(rules, word).rounds))


def _leads(rules, word, aim):
    return led(_rows_of(rules, word), 1, aim) >> len(word) & 1 == 1


def _one_letter_on(goals, least):
    """For each node that is one letter on from those with a string, the least string that leads there."""
    further = {}
    for node in least:
        for letter in LETTERS:
            for goal in bits(goals[letter][node]):
                further[goal] = min(further.get(goal, least[node] + letter), least[node] + letter)
    return further


def _ties_of(ties, last, aim):
    """The ties of a walk with the aim from 0 to the last node."""
    goals = goal_rows(last + 1, ties)
    sources = source_rows(last + 1, ties)
    found = []
    node = 0
    for place, letter in enumerate(aim):
        able = led(sources, 1 << last, aim[:place:-1])
        goal = least_bit(goals[letter][node] & able)
        found.append((node, letter, goal))
        node = goal
    return found


def _taken(rules, places):
    return [rules[place] for place in places]


def _less(rules, left_out):
    return [rule for place, rule in enumerate(rules) if place != left_out]


def _first_lacking(rules, others):
    """The first rule of the others that the rules do not imply; None if they imply all."""
    for word, letter in others:
        if not _leads(rules, word, letter):
            return word, letter
    return None
