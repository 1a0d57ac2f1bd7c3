"""Plays: runs of bodies that are called one after another, what they cost, and what is sealed against them."""

from netkeep.bodies import fits_power
from netkeep.calling import Search
from netkeep.checks import need_number
from netkeep.choosing import price_of
from netkeep.duty import Rests
from netkeep.errors import InvalidPrices
from netkeep.faults import InvalidPlay
from netkeep.sealing import cheapest_sealing, open_powers, tree_of_plays
from netkeep.steps import kind_of_run, powers_in, states_in
from netkeep.ties import is_list
from netkeep.vows import holds_at, need_looks, need_vow
from netkeep.words import is_count


def is_play(scene, value):
    """Whether any value is a play of the scene."""
    return _is_play_with(scene, scene.powers(), value)


def looked(scene, play, looks="all"):
    """The list of the states at these looks in the play, from the first state on."""
    _need_play(scene, play)
    need_looks(looks)
    return _looked(scene, play, looks)


def breaks(scene, play, vow, looks="all"):
    """Whether the play breaks the vow, for these looks."""
    _need_play(scene, play)
    need_vow(scene, vow)
    need_looks(looks)
    return _breaks(scene, play, vow, looks)


def cost(scene, play, prices):
    """The cost of the play."""
    _need_play(scene, play)
    _need_prices(scene, prices)
    return sum([prices[run[0]] + price_of(prices, powers_in(run)) for run in play])


def cheapest_play(scene, vow, prices, looks="all"):
    """A play of the least cost that breaks the vow; None if it is kept."""
    found = _cheapest(scene, vow, prices, looks)
    return None if found is None else found[1]


def least_cost(scene, vow, prices, looks="all"):
    """The least cost of a play that breaks the vow; None if it is kept."""
    found = _cheapest(scene, vow, prices, looks)
    return None if found is None else found[0]


def cheapest_seals(scene, vow, prices, looks="all"):
    """The tuple (price, powers) of the cheapest powers to seal so that the vow is kept; None if none suffice."""
    need_vow(scene, vow)
    _need_prices(scene, prices)
    need_looks(looks)
    return cheapest_sealing(Search(scene, vow, looks), scene, prices)


def tree_against(scene, vow, prices, number, looks="all"):
    """A tree against the number; None if powers with prices of at most the number together suffice."""
    need_vow(scene, vow)
    _need_prices(scene, prices)
    need_number(number)
    need_looks(looks)
    return tree_of_plays(Search(scene, vow, looks), scene, prices, number, [], {})


def is_tree_against(scene, vow, prices, number, value, looks="all"):
    """Whether any value is a tree against the number."""
    need_vow(scene, vow)
    _need_prices(scene, prices)
    need_number(number)
    need_looks(looks)
    return _is_tree(scene, vow, looks, prices, number, scene.powers(), value)


def _is_play_with(scene, powers, value):
    if not is_list(value):
        return False
    kinds = [kind_of_run(scene, powers, run) for run in value]
    return None not in kinds and "cut" not in kinds[:-1]


def _need_play(scene, play):
    if not is_play(scene, play):
        raise InvalidPlay(play)


def _need_prices(scene, prices):
    if not isinstance(prices, dict) or len(prices) != len(scene.deeds()) + len(scene.powers()):
        raise InvalidPrices(prices)
    bodies = {deed: scene.body(deed) for deed in scene.deeds()}
    if not all([_is_priced(scene, bodies, one) and is_count(prices[one]) for one in prices]):
        raise InvalidPrices(prices)


def _is_priced(scene, bodies, value):
    if isinstance(value, str):
        return value in bodies
    return fits_power(value, bodies, scene.loose()) and value in scene.powers()


def _looked(scene, play, looks):
    rests = Rests(scene)
    state = scene.first_state
    found = [state]
    for run in play:
        behind = states_in(scene, run, state)
        whole = kind_of_run(scene, scene.powers(), run) == "whole"
        if whole:
            behind.extend(rests.way(([state] + behind)[-1]))
        state = ([state] + behind)[-1]
        if looks == "all":
            found.extend(behind)
        elif whole:
            found.append(state)
    return found


def _breaks(scene, play, vow, looks):
    unlike = {state: True for state in _looked(scene, play, looks)}
    return not all([holds_at(scene, state, vow) for state in unlike])


def _cheapest(scene, vow, prices, looks):
    need_vow(scene, vow)
    _need_prices(scene, prices)
    need_looks(looks)
    return Search(scene, vow, looks).cheapest(scene.powers(), prices)


def _is_tree(scene, vow, looks, prices, number, powers, value):
    """Whether any value is a tree against a number where these powers are left."""
    if not isinstance(value, tuple) or len(value) != 2 or not isinstance(value[1], dict):
        return False
    play, trees = value
    if not _is_play_with(scene, powers, play) or not _breaks(scene, play, vow, looks):
        return False
    bodies = {deed: scene.body(deed) for deed in scene.deeds()}
    if not all([fits_power(power, bodies, scene.loose()) for power in trees]):
        return False
    if sorted(trees) != open_powers(play, prices, number):
        return False
    for power in trees:
        left = [other for other in powers if other != power]
        if not _is_tree(scene, vow, looks, prices, number - prices[power], left, trees[power]):
            return False
    return True
