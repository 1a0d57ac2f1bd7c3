"""What a wish wants of words, and why some words are no stock."""

from netkeep.bridging import least_cut, least_plan, settles
from netkeep.stretching import stretches_of


class Knowing:
    """Which words settle which ones; each is worked out once."""

    def __init__(self):
        self._known = {}

    def are_enough(self, words, word):
        """Whether the words settle the word."""
        # Only those that stand in it have bridges.
        within = tuple([other for other in words if other in word])
        if (within, word) not in self._known:
            self._known[within, word] = settles(within, word)
        return self._known[within, word]


def reason_of(knowing, wish, taken, able):
    """A reason, other than a price, against all lots of the able words that have the taken ones; None without one."""
    for question in wish.questions():
        if not knowing.are_enough(able, question):
            return "cut", question, least_cut(able, question)
    for secret in wish.secrets():
        if knowing.are_enough(taken, secret):
            return "plan", secret, least_plan(taken, secret)
    for word in taken:
        for letter in wish.letters():
            for stretch in stretches_of(word, letter):
                if not knowing.are_enough(able, stretch):
                    return "stretch", word, letter, stretch, least_cut(able, stretch)
    return None
