"""Rows of integers, and the combinations that make 0 of them, or another row.

A fraction row is a tuple (numbers, below): its fractions are the numbers, each divided by below, which is at least 1.
"""

from math import gcd


class Rows:
    """Some rows of as many integers: those that stand apart, and the combinations that make 0."""

    def __init__(self, rows, width):
        self._many = len(rows)
        self._width = width
        self._leads = []
        self.apart = []
        self.nothing = []
        for place, row in enumerate(rows):
            self._take(row, [int(place == other) for other in range(self._many)])

    def _take(self, row, share):
        line = self._less(list(row) + share + [0])
        columns = [column for column in range(self._width) if line[column]]
        if columns:
            self._leads.append((columns[0], line))
            self.apart.append(list(row))
        else:
            self.nothing.append(line[self._width:-1])

    def _less(self, line):
        """A multiple of the line, less what makes it 0 at the column of each lead."""
        for column, lead in self._leads:
            if line[column]:
                by, less = lead[column], line[column]
                line = _smallest([number * by - other * less for number, other in zip(line, lead)])
        return line

    def combination(self, row):
        """The fraction row of how often each row is taken to make this fraction row; None if they cannot make it."""
        numbers, below = row
        line = self._less(numbers + [0] * self._many + [1])
        if any(line[:self._width]):
            return None
        return lowest([-number for number in line[self._width:-1]], line[-1] * below)


def _smallest(line):
    """The line without what divides all of its numbers."""
    by = 0
    for number in line:
        by = gcd(by, number)
    return [number // by for number in line] if by > 1 else line


def lowest(numbers, below):
    """The fraction row in lowest terms; below may be less than 0 here."""
    by = below
    for number in numbers:
        by = gcd(by, number)
    by = abs(by) if below > 0 else -abs(by)
    return [number // by for number in numbers], below // by


def summed(numbers, rows, width):
    """The sum of the rows, each as often as told."""
    total = [0] * width
    for many, row in zip(numbers, rows):
        if many:
            total = [number + many * part for number, part in zip(total, row)]
    return total


def times(row, matrix, width):
    """A fraction row times a matrix of integers, or the sum of its rows, each as often as the fractions tell."""
    numbers, below = row
    return lowest(summed(numbers, matrix, width), below)


def plus(row, other, many=1):
    """A fraction row and another one, this so many times."""
    numbers, below = row
    others, less = other
    return lowest([number * less + many * part * below for number, part in zip(numbers, others)], below * less)


def fraction_row(row):
    """The fraction row, in lowest terms, of a list of fractions (above, below) in lowest terms."""
    together = 1
    for _, below in row:
        together = together * below // gcd(together, below)
    return [above * (together // below) for above, below in row], together


def fractions_of(row):
    """The list of the fractions (above, below), in lowest terms, of a fraction row."""
    numbers, below = row
    return [(number // gcd(number, below), below // gcd(number, below)) for number in numbers]
