"""Seals: which powers to take away so that a vow is kept, and trees that show that none suffice."""

from netkeep.choosing import choices_of, price_of
from netkeep.steps import powers_in


def used_in(play):
    """The sorted list of the unlike powers that a play uses."""
    return sorted({power for run in play for power in powers_in(run)})


def cheapest_sealing(search, scene, prices):
    """The price and the list of the cheapest powers that suffice; None if none do."""
    powers = scene.powers()
    choices = [[powers[at] for at in choice] for choice in choices_of(len(powers))]
    broken = []
    for sealed in sorted(choices, key=lambda some: price_of(prices, some)):
        # A play that uses none of the sealed powers is still there.
        if all([any([power in sealed for power in used]) for used in broken]):
            play = play_without(search, scene, sealed)
            if play is None:
                return price_of(prices, sealed), sealed
            broken.append(used_in(play))
    return None


def play_without(search, scene, sealed):
    """A play that breaks the vow without the sealed powers, with as few uses of powers as can be; None."""
    left = [power for power in scene.powers() if power not in sealed]
    found = search.cheapest(left, {one: int(one in left) for one in scene.deeds() + scene.powers()})
    return None if found is None else found[1]


def tree_of_plays(search, scene, prices, number, sealed, known):
    """A tree against the number, below some sealed powers, with the trees that are known; None if there is none."""
    key = tuple(sorted(sealed))
    if key not in known:
        known[key] = _tree(search, scene, prices, number, sealed, known)
    return known[key]


def _tree(search, scene, prices, number, sealed, known):
    play = play_without(search, scene, sealed)
    if play is None:
        return None
    trees = {}
    for power in open_powers(play, prices, number - price_of(prices, sealed)):
        trees[power] = tree_of_plays(search, scene, prices, number, sealed + [power], known)
        if trees[power] is None:
            return None
    return play, trees


def open_powers(play, prices, number):
    """The sorted list of the powers that a play uses and whose price is at most the number."""
    return [power for power in used_in(play) if prices[power] <= number]
