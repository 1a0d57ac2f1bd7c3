"""Lines of texts, the numbers in them, and the number of the line that is wrong."""

from netkeep.faults import InvalidText

DIGITS = "0123456789"


def number_in(word):
    """The number that a word tells in decimal digits without needless zeros; None if it tells none."""
    if not word or not all([sign in DIGITS for sign in word]) or (word[0] == "0" and len(word) > 1):
        return None
    return int(word)


def number_below(word, many):
    """The number that a word tells, if it is less than the other one; None."""
    # A word with more digits tells no such number, and may be too long to be made one.
    number = number_in(word) if len(word) <= len(str(many)) else None
    return number if number is not None and number < many else None


def numbers_below(words, many):
    """The list of the numbers that words tell, if all are less than the other one; None."""
    numbers = [number_below(word, many) for word in words]
    return None if None in numbers else numbers


def parted_lines(text):
    """The list of the lines with a line feed, and what stands behind the last one of these."""
    if not isinstance(text, str):
        raise InvalidText(1)
    pieces = text.split("\n")
    return pieces[:-1], pieces[-1]


def head_words(lines, name):
    """The words of the first line behind its name; refused if there is none with this name."""
    words = lines[0].split(" ") if lines else []
    if words[:1] != [name]:
        raise InvalidText(1)
    return words[1:]


def need_end(lines, rest, lacking=False):
    """Refuse what stands behind the lines without a line feed, or that lines are lacking there."""
    if rest or lacking:
        raise InvalidText(len(lines) + 1)


def triples_in(lines, name, many, signs, most):
    """The tuples (number, sign, number) that the lines behind the first one tell; the first wrong one is refused."""
    found = []
    for at, line in enumerate(lines[1:], start=2):
        told = _triple_in(line.split(" "), name, many, signs)
        if told is None or (found and told <= found[-1]) or len(found) == most:
            raise InvalidText(at)
        found.append(told)
    return found


def _triple_in(words, name, many, signs):
    """The tuple that the words of a line with this name tell, of numbers below many; None if they tell none."""
    if len(words) != 4 or words[0] != name or len(words[2]) != 1 or words[2] not in signs:
        return None
    numbers = numbers_below([words[1], words[3]], many)
    return None if numbers is None else (numbers[0], words[2], numbers[1])
