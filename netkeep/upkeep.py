"""Upkeep: which lots tell their kept answers behind a new tie, how they do, and what parts them otherwise."""

from netkeep.atwork import told_by
from netkeep.bridging import fits_plan, least_plan, settles
from netkeep.checks import need_letter, need_nodes, need_telling, need_tie, need_word
from netkeep.errors import InvalidKept, InvalidPlaces, NotKeptUp
from netkeep.gaps import told_apart
from netkeep.lots import is_kept
from netkeep.masks import bits
from netkeep.store import Store
from netkeep.stretching import (
    all_parts,
    answer_of,
    grid_of,
    is_answer,
    left_by,
    part_grid,
    places_of,
    spans,
    stretches_of,
    unit_grid,
)
from netkeep.ties import is_below, is_list, is_tie
from netkeep.twins import first_unlike
from netkeep.words import LETTERS, by_length, is_word


def stretches(word, letter):
    """The unlike stretches of the word for the letter, the empty one first, then as words are sorted."""
    need_word(word)
    need_letter(letter)
    return stretches_of(word, letter)


def choices(word, letter):
    """All choices for the word, sorted."""
    need_word(word)
    need_letter(letter)
    places = places_of(word, letter)
    return sorted([[places[at] for at in bits(mask)] for mask in range(1, 1 << len(places))])


def part(word, places, tie, nodes, telling, answers):
    """The part of a choice: what walks that go along the tie at just these positions add to the answer."""
    need_word(word)
    need_nodes(nodes)
    need_telling(telling)
    need_tie(tie, nodes)
    _need_places(word, places, tie)
    _need_answers(word, places, nodes, telling, answers)
    grids = {"": unit_grid(nodes)}
    for stretch in left_by(word, places):
        if stretch:
            grids[stretch] = grid_of(nodes, answers[stretch], telling)
    return answer_of(part_grid(word, places, tie, grids), telling)


def keeps_up(lot, letter):
    """Whether the lot keeps itself up for the letter."""
    return unsettled(lot, letter) == []


def kept_letters(lot):
    """The letters for which the lot keeps itself up."""
    return "".join([letter for letter in LETTERS if keeps_up(lot, letter)])


def first_gap(lot, letter):
    """Of the gaps of the first word that has one the least; None if there is none."""
    need_letter(letter)
    words = lot.words()
    for word in words:
        for begin, end in spans(word, letter):
            if not settles(words, word[begin:end]):
                return word, begin, end
    return None


def unsettled(lot, letter):
    """The sorted list of the unlike stretches of all words that the lot does not settle."""
    need_letter(letter)
    words = lot.words()
    return [stretch for stretch in _all_stretches(words, letter) if not settles(words, stretch)]


def plans_paper(lot, letter):
    """A dict from the stretches that are not empty to plans of them; None if the lot does not keep itself up."""
    if not keeps_up(lot, letter):
        return None
    words = lot.words()
    return {stretch: least_plan(words, stretch) for stretch in _all_stretches(words, letter)}


def is_plans_paper(lot, letter, value):
    """Whether any value is such a dict."""
    need_letter(letter)
    words = lot.words()
    if not isinstance(value, dict) or not all([is_word(stretch) for stretch in value]):
        return False
    if by_length(list(value)) != _all_stretches(words, letter):
        return False
    return all([fits_plan(words, stretch, value[stretch]) for stretch in value])


def behind_put(lot, nodes, kept, telling, tie, done=True):
    """The kept answers behind the put of the tie."""
    _need_kept_up(lot, nodes, kept, telling, tie)
    words = lot.words()
    grids = {word: grid_of(nodes, kept[word], telling) for word in words}
    if done:
        told = _told_grids(words, words, nodes, kept, telling, tie)
        for word in words:
            grids[word] = _sum(grids[word], all_parts(word, tie, told, nodes), 1)
    return {word: answer_of(grids[word], telling) for word in words}


def behind_strike(lot, nodes, kept, tie, done=True):
    """The kept answers, in "many", behind the strike of the tie."""
    _need_kept_up(lot, nodes, kept, "many", tie)
    words = lot.words()
    new = {word: grid_of(nodes, kept[word], "many") for word in words}
    if not done:
        return new
    for word in words:
        # The plans of its stretches take words that are shorter than it, whose answers are the new ones by now.
        told = _told_grids(words, [word], nodes, new, "many", tie)
        new[word] = _sum(new[word], all_parts(word, tie, told, nodes), -1)
        if min([min(line) for line in new[word]]) < 0:
            raise InvalidKept(kept)
    return new


def apart(lot, letter):
    """The told stores and the tie of the first gap; None if there is none."""
    gap = first_gap(lot, letter)
    if gap is None:
        return None
    return told_apart(lot.words(), letter, gap)


def is_apart(lot, letter, telling, value):
    """Whether any value is a tuple of two stores that are apart, and the tie."""
    need_letter(letter)
    need_telling(telling)
    if not isinstance(value, tuple) or len(value) != 3:
        return False
    one, other, tie = value
    if not isinstance(one, Store) or not isinstance(other, Store) or one.nodes != other.nodes:
        return False
    if not is_tie(tie, one.nodes) or tie[1] != letter or tie in one or tie in other:
        return False
    if max(len(one), len(other)) == Store.MOST_TIES or first_unlike(lot.words(), one, other, telling) is not None:
        return False
    return first_unlike(lot.words(), one + tie, other + tie, telling) is not None


def _all_stretches(words, letter):
    """The sorted list of the unlike stretches of all words that are not empty."""
    found = {stretch: True for word in words for stretch in stretches_of(word, letter) if stretch}
    return by_length(list(found))


def _need_places(word, places, tie):
    """Refuse what is no choice for the word and the letter of the tie."""
    if not is_list(places) or not places:
        raise InvalidPlaces(None)
    able = places_of(word, tie[1])
    least = 0
    for position, place in enumerate(places):
        if not is_below(place, len(word)) or place not in able or place < least:
            raise InvalidPlaces(position)
        least = place + 1


def _need_answers(word, places, nodes, telling, answers):
    """Refuse what has not the answer of each stretch, that is not empty, which the choice leaves."""
    if not isinstance(answers, dict):
        raise InvalidKept(answers)
    for stretch in left_by(word, places):
        if stretch and not is_answer(nodes, answers.get(stretch), telling):
            raise InvalidKept(answers)


def _need_kept_up(lot, nodes, kept, telling, tie):
    # Refuses what is no number of nodes and no telling, too.
    if not is_kept(lot, nodes, kept, telling):
        raise InvalidKept(kept)
    need_tie(tie, nodes)
    if not keeps_up(lot, tie[1]):
        raise NotKeptUp(tie[1])


def _told_grids(words, some, nodes, kept, telling, tie):
    """For each stretch of some words, and the empty one, the matrix that the kept answers of the words tell."""
    grids = {"": unit_grid(nodes)}
    for stretch in _all_stretches(some, tie[1]):
        grids[stretch] = grid_of(nodes, told_by(words, stretch, nodes, kept, telling), telling)
    return grids


def _sum(grid, more, many):
    """One matrix and another one, so many times."""
    return [[one + many * other for one, other in zip(line, further)] for line, further in zip(grid, more)]
