"""Kept code: for which places of a word its tables stand, what it costs, and the code of plans."""

from netkeep.bridging import bridges_in, fits_plan, least_plan, steps_from
from netkeep.checks import need_number, need_word
from netkeep.code import Code
from netkeep.coding import first_kind, sources_of
from netkeep.errors import NotSettled
from netkeep.faults import InvalidFares, InvalidLines
from netkeep.ties import is_below, is_list
from netkeep.words import LONGEST_WORD, is_count

MOST_FARE = 1000
FARES = ("back", "keep", "then")


def places(code, word):
    """For each line the sorted list of its places."""
    _need_kept_code(code)
    need_word(word)
    return _places(code, word)


def is_sure(code, word):
    """Whether the last line has the place behind all letters of the word."""
    _need_kept_code(code)
    need_word(word)
    return len(word) in _places(code, word)[-1]


def price(code, fares):
    """The sum of the fares of the lines."""
    _need_kept_code(code)
    _need_fares(fares)
    return sum([fares[line[0]] for line in code.lines()])


def code_of_plan(lot, word):
    """The code of the least plan of the word."""
    need_word(word)
    steps = least_plan(lot.words(), word)
    if steps is None:
        raise NotSettled(word)
    return _code_of(steps)


def is_code_of_plan(lot, word, value):
    """Whether any value is the code of some plan of the word."""
    need_word(word)
    if not isinstance(value, Code):
        return False
    return fits_plan(lot.words(), word, _steps_in(value.lines()))


def cheapest_price(lot, word, fares):
    """The least price of code of a plan; None if there is none."""
    _need_word_and_fares(word, fares)
    ways = _ways(lot.words(), word, fares)
    return ways[len(word)][0] - fares["then"] if len(word) in ways else None


def cheapest_code(lot, word, fares):
    """Code of a plan with the least price; None if there is none."""
    _need_word_and_fares(word, fares)
    ways = _ways(lot.words(), word, fares)
    return _code_of(ways[len(word)][2]) if len(word) in ways else None


def price_ranks(lot, word, fares, number):
    """Price ranks for the number; None if code of some plan has a price below it."""
    _need_word_and_fares(word, fares)
    need_number(number)
    ways = _ways(lot.words(), word, fares)
    # No bridge joins a place that is come to with one that is not: these may all have the same great rank.
    great = number + fares["then"]
    ranks = [ways[place][0] if place in ways else great for place in range(len(word) + 1)]
    return ranks if ranks[-1] >= great else None


def are_price_ranks(lot, word, fares, number, value):
    """Whether any value is price ranks for the number."""
    _need_word_and_fares(word, fares)
    need_number(number)
    if not is_list(value) or len(value) != len(word) + 1 or not all([is_count(rank) for rank in value]):
        return False
    if value[0] != 0 or value[-1] < number + fares["then"]:
        return False
    forth, back = fares["keep"] + fares["then"], fares["keep"] + fares["back"]
    bridges = bridges_in(lot.words(), word)
    return all([value[j] <= value[i] + forth and value[i] <= value[j] + back for i, j, _ in bridges])


def _need_kept_code(code):
    wrong = first_kind(code.lines(), ("load", "or", "again", "perhaps"))
    if wrong is not None:
        raise InvalidLines(wrong)


def _need_word_and_fares(word, fares):
    need_word(word)
    _need_fares(fares)


def _need_fares(fares):
    if not isinstance(fares, dict) or len(fares) != len(FARES):
        raise InvalidFares(fares)
    if not all([isinstance(kind, str) and kind in FARES and is_below(fares[kind], MOST_FARE + 1) for kind in fares]):
        raise InvalidFares(fares)


def _places(code, word):
    owns = []
    found = []
    for line, sources in zip(code.lines(), sources_of(code.lines())):
        own, there = None, []
        if line[0] == "keep":
            own = line[2]
        else:
            first, second = sources
            there = _led(word, line[0], found[first], owns[second])
            if line[0] == "then":
                own = _joined(owns[first], owns[second])
        if own is not None and word.startswith(own):
            there = there + [len(own)]
        owns.append(own)
        found.append(sorted(set(there)))
    return found


def _joined(one, other):
    """The word of both joined; None if one of them is lacking, or it would be no word."""
    if one is None or other is None or len(one) + len(other) > LONGEST_WORD:
        return None
    return one + other


def _led(word, kind, some, own):
    """The places to which a word of a table leads, forth or back, from some places."""
    if own is None:
        return []
    if kind == "then":
        return [place + len(own) for place in some if word[place:].startswith(own)]
    return [place - len(own) for place in some if word[:place].endswith(own)]


def _code_of(steps):
    """The code of a plan."""
    lines = [("keep", 0, steps[0][1])]
    for begin, word, end in steps[1:]:
        lines.extend([("keep", 1, word), ("then" if begin < end else "back", 0, 0, 1)])
    return Code(lines)


def _steps_in(lines):
    """The steps of the plan of which lines have the form; None if they have not that of code of a plan."""
    if len(lines) % 2 == 0 or lines[0][:2] != ("keep", 0):
        return None
    steps = [(0, lines[0][2], len(lines[0][2]))]
    for keep, move in zip(lines[1::2], lines[2::2]):
        if keep[:2] != ("keep", 1) or move not in (("then", 0, 0, 1), ("back", 0, 0, 1)):
            return None
        place = steps[-1][2]
        goal = place + len(keep[2]) if move[0] == "then" else place - len(keep[2])
        steps.append((place, keep[2], goal))
    return steps


def _ways(words, word, fares):
    """For each place that is come to a tuple: the least sum of fares, how many steps, and the steps.

    Each step is reckoned with two lines, the first one, too, which goes forth and has only one.
    """
    ways = {0: (0, 0, [])}
    # A cheapest way, and of these one with the fewest steps, comes to no place twice.
    for _ in word:
        for place in list(ways):
            for step in steps_from(words, word, place):
                way = _further(ways[place], step, fares)
                if step[2] not in ways or way < ways[step[2]]:
                    ways[step[2]] = way
    return ways


def _further(way, step, fares):
    """The way with a step more."""
    kind = "then" if step[0] < step[2] else "back"
    return way[0] + fares["keep"] + fares[kind], way[1] + 1, way[2] + [step]
