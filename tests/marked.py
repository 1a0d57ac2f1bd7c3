"""What the tests of kinds share: kinds as the random source tells, and slow, plain ways with lists of deeds."""

import itertools

from netkeep.kinds import Kind


def some_kind(rng, marks=5, deeds=3):
    """A kind, as the random source tells; some deeds are made to agree with others, or to bear repeats."""
    many, deeds = rng.randint(1 + (rng.random() < 0.9), marks), rng.randint(1 + (rng.random() < 0.8), deeds)
    steps = [rng.randrange(many) for _ in range(deeds)]
    way = rng.choice(("any", "any", "chain", "circle", "greatest", "set", "set"))
    if way == "any":
        table = [[rng.randrange(many) for _ in range(deeds)] for _ in range(many)]
    elif way == "chain":
        table = [[min(mark + 1, many - 1)] + [rng.choice((mark, step)) for step in steps[1:]] for mark in range(many)]
    elif way == "circle":
        table = [[(mark + step) % many for step in steps] for mark in range(many)]
    elif way == "greatest":
        table = [[max(mark, step) for step in steps] for mark in range(many)]
    else:
        table = [[step if rng.random() < 0.8 else mark for step in steps] for mark in range(many)]
    least = rng.choice((0.2, 0.5))
    return Kind(table, [rng.random() < least for _ in range(many)])


def slow_mark(kind, deeds):
    """The mark behind deeds, deed by deed."""
    mark = 0
    for deed in deeds:
        mark = kind.table()[mark][deed]
    return mark


def slow_counts(kind, deeds):
    return kind.counting()[slow_mark(kind, deeds)]


def lists_of(kind, longest):
    """All lists of at most so many deeds, shorter ones first."""
    deeds = range(kind.deed_count)
    return [list(told) for many in range(longest + 1) for told in itertools.product(deeds, repeat=many)]


def slow_alike(kind, one, other):
    """Whether two marks are alike: by all couples of marks that are come to from them."""
    couples, queue = {(one, other)}, [(one, other)]
    while queue:
        x, y = queue.pop()
        if kind.counting()[x] != kind.counting()[y]:
            return False
        for goals in zip(kind.table()[x], kind.table()[y]):
            if goals not in couples:
                couples.add(goals)
                queue.append(goals)
    return True


def slow_come_to(kind):
    """The set of the marks that are come to from mark 0."""
    return {slow_mark(kind, deeds) for deeds in lists_of(kind, len(kind) - 1)}


def slow_agrees(kind):
    table, deeds = kind.table(), range(kind.deed_count)
    return all(slow_alike(kind, table[table[mark][one]][other], table[table[mark][other]][one])
               for mark in slow_come_to(kind) for one in deeds for other in deeds)


def slow_bears_repeats(kind):
    table, deeds = kind.table(), range(kind.deed_count)
    return all(slow_alike(kind, table[mark][one], table[table[mark][one]][one])
               for mark in slow_come_to(kind) for one in deeds)


def slow_shows(kind, value, couples):
    """Whether a value is looks with the same look at both marks of each of the couples told for each marked one."""
    if type(value) not in (list, tuple) or len(value) != len(kind):
        return False
    if any(look is not None and (type(look) is not int or look < 0) for look in value) or value[0] is None:
        return False
    table, counting = kind.table(), kind.counting()
    marks = [mark for mark, look in enumerate(value) if look is not None]
    if any(value[goal] is None for mark in marks for goal in table[mark]):
        return False
    for one, other in itertools.product(marks, marks):
        if value[one] == value[other]:
            if counting[one] != counting[other]:
                return False
            if [value[goal] for goal in table[one]] != [value[goal] for goal in table[other]]:
                return False
    return all(value[one] == value[other] for mark in marks for one, other in couples(table, mark))


def both_sequences(table, mark):
    """The marks behind each two deeds from a mark, in both sequences."""
    deeds = range(len(table[0]))
    return [(table[table[mark][one]][other], table[table[mark][other]][one]) for one in deeds for other in deeds]


def once_and_twice(table, mark):
    """The marks behind each deed from a mark, done once and twice."""
    return [(goal, table[goal][deed]) for deed, goal in enumerate(table[mark])]


def slow_clash(kind, longest):
    """The least clash with at most so many deeds ahead and behind together, tried one by one; None without one."""
    deeds = range(kind.deed_count)
    for many in range(longest + 1):
        found = [(ahead, one, other, behind) for ahead in lists_of(kind, many)
                 for behind in lists_of(kind, many - len(ahead)) if len(ahead) + len(behind) == many
                 for one in deeds for other in deeds
                 if slow_counts(kind, ahead + [one, other] + behind) != slow_counts(kind, ahead + [other, one] + behind)]
        if found:
            return min(found)
    return None


def slow_echo(kind, longest):
    """The least echo with at most so many deeds ahead and behind together, tried one by one; None without one."""
    for many in range(longest + 1):
        found = [(ahead, deed, behind) for ahead in lists_of(kind, many)
                 for behind in lists_of(kind, many - len(ahead)) if len(ahead) + len(behind) == many
                 for deed in range(kind.deed_count)
                 if slow_counts(kind, ahead + [deed] + behind) != slow_counts(kind, ahead + [deed, deed] + behind)]
        if found:
            return min(found)
    return None
