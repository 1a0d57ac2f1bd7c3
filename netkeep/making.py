"""What "then", "or", "back", "again" and "perhaps" make of relations that are told by rows of masks."""

from netkeep.masks import back_rows, closed, union


def made(kind, relations):
    """The rows that are made of the rows of one relation, or of two."""
    one, other = relations[0], relations[-1]
    if kind == "again":
        return list(closed(one))
    if kind == "perhaps":
        return [mask | 1 << x for x, mask in enumerate(one)]
    if kind == "then":
        return [union(other, mask) for mask in one]
    if kind == "or":
        return [mask | more for mask, more in zip(one, other)]
    return back_rows(one, other)
