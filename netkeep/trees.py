"""Trees of sayings: which values are such, what they are made of, and their texts."""

from netkeep.signs import contrary, is_sign

TWO_PARTS = ("then", "or")
ONE_PART = ("again", "perhaps")
# What stands in a text, beside signs; of two that begin alike the longer one comes first.
TOKENS = ("(again ", "(perhaps ", "(", ")", " then ", " or ")


def is_tree(value):
    """Whether any value is a tree."""
    left = [value]
    while left:
        one = left.pop()
        if _is_joined(one):
            left.extend(one[1:])
        elif not is_sign(one):
            return False
    return True


def _is_joined(value):
    """Whether any value has the form of a tree that is no sign, whatever its parts are."""
    if not isinstance(value, tuple) or not value or not isinstance(value[0], str):
        return False
    return len(value) == (3 if value[0] in TWO_PARTS else 2) and value[0] in TWO_PARTS + ONE_PART


def sizes(tree):
    """How many leaves a tree has, and how many parts."""
    leaves, parts = 0, 0
    left = [tree]
    while left:
        one = left.pop()
        parts += 1
        if isinstance(one, str):
            leaves += 1
        else:
            left.extend(one[1:])
    return leaves, parts


def leaf_signs(tree):
    """The list of the signs of a tree, from left to right."""
    if isinstance(tree, str):
        return [tree]
    return [sign for part in tree[1:] for sign in leaf_signs(part)]


def can_be_empty(tree):
    """Whether a tree may be empty."""
    if isinstance(tree, str):
        return False
    if tree[0] == "perhaps":
        return True
    empty = [can_be_empty(part) for part in tree[1:]]
    return any(empty) if tree[0] == "or" else all(empty)


def turned_round(tree):
    """The tree with each sign's contrary, and the two of each "then" exchanged."""
    if isinstance(tree, str):
        return contrary(tree)
    parts = [turned_round(part) for part in tree[1:]]
    return (tree[0], *parts[::-1]) if tree[0] == "then" else (tree[0], *parts)


def text_of_tree(tree):
    """The text of a tree."""
    if isinstance(tree, str):
        return tree
    parts = [text_of_tree(part) for part in tree[1:]]
    if len(parts) == 1:
        return f"({tree[0]} {parts[0]})"
    return f"({parts[0]} {tree[0]} {parts[1]})"


def read_tree(text):
    """The tree with just this text, however deep it is; None if there is none."""
    open_parts = []
    at = 0
    while at < len(text):
        token = _token_at(text, at)
        if token is None:
            return None
        at = at + len(token)
        if token == ")":
            closed = _closed(open_parts)
            if closed is None:
                return None
            many, tree = closed
            open_parts = open_parts[:-many] + [tree]
        else:
            open_parts.append(token)
    return open_parts[0] if len(open_parts) == 1 and _is_whole(open_parts[0]) else None


def _token_at(text, at):
    """What stands at a place of a text: a sign, or one of the tokens; None for anything else."""
    if is_sign(text[at]):
        return text[at]
    for token in TOKENS:
        if text[at:at + len(token)] == token:
            return token
    return None


def _is_whole(part):
    """Whether what stands in a bracket is a tree, no token."""
    return isinstance(part, tuple) or is_sign(part)


def _closed(parts):
    """How many of the last parts a closing bracket takes, and the tree that they make; None if they make none."""
    if len(parts) > 1 and parts[-2] in ("(again ", "(perhaps ") and _is_whole(parts[-1]):
        return 2, (parts[-2][1:-1], parts[-1])
    if len(parts) > 3 and parts[-4] == "(" and _is_whole(parts[-3]) and _is_whole(parts[-1]):
        if parts[-2] in (" then ", " or "):
            return 4, (parts[-2][1:-1], parts[-3], parts[-1])
    return None
