"""Sets of small numbers as masks: integers whose bit k tells whether k is one of them."""

from netkeep.words import LETTERS


def mask_of(numbers):
    """The mask of some unlike numbers."""
    return sum([1 << number for number in numbers])


def bits(mask):
    """The numbers of a mask, rising."""
    return [number for number in range(mask.bit_length()) if mask >> number & 1]


def least_bit(mask):
    """The least number of a mask that has one."""
    return (mask & -mask).bit_length() - 1


def union(rows, mask):
    """The mask of all that stands in the rows with the numbers of a mask."""
    found = 0
    for number in bits(mask):
        found = found | rows[number]
    return found


def rows_of(many, couples):
    """For each of so many numbers the mask of those with which it is paired."""
    rows = [0] * many
    for x, y in couples:
        rows[x] = rows[x] | 1 << y
    return rows


def couples_of(rows):
    """The sorted list of the pairs that such rows stand for."""
    return [(x, y) for x, mask in enumerate(rows) for y in bits(mask)]


def goal_rows(nodes, ties):
    """For each letter, and each node, the mask of the nodes to which ties of this letter lead from it."""
    rows = {letter: [0] * nodes for letter in LETTERS}
    for x, letter, y in ties:
        rows[letter][x] = rows[letter][x] | 1 << y
    return rows


def source_rows(nodes, ties):
    """For each letter, and each node, the mask of the nodes from which ties of this letter lead to it."""
    return goal_rows(nodes, [(y, letter, x) for x, letter, y in ties])


def led(rows, mask, letters):
    """The mask of the nodes to which ties of these letters, one behind another, lead from those of a mask."""
    for letter in letters:
        mask = union(rows[letter], mask)
    return mask


def closed(rows):
    """The least transitive relation that has these rows, as a tuple."""
    for middle in range(len(rows)):
        rows = [mask | rows[middle] if mask >> middle & 1 else mask for mask in rows]
    return tuple(rows)


def back_rows(one, other):
    """The rows of one relation back over the other one: for each x the w all of whose goals there x has here."""
    return [mask_of([w for w, wanted in enumerate(other) if wanted & mask == wanted]) for mask in one]
