"""The calls: how wide groups of children are, by the children's levels."""

MOST_CHILDREN = 9
MOST_LEVEL = 1000
MOST_GROUPS = 9
MOST_SIZE = 9


def looks(n, size, levels, groups):
    """Answer all spreads together, then the greatest.

    The answer is -22 alone where the call isn't as told, and -28 alone where
    a group has more than size children.
    """
    if not (counts_are_right(n, size) and levels_are_right(levels)):
        return [-22]
    if not groups_are_right(n, levels, groups):
        return [-22]
    grouped = levels_by_group(n, levels, groups)
    if any([len(members) > size for members in grouped]):
        return [-28]
    spreads = [spread(members) for members in grouped]
    return [sum(spreads), max(spreads)]


def counts_are_right(n, size):
    """Tell whether there may be n groups of at most size children each."""
    return 1 <= n <= MOST_GROUPS and 1 <= size <= MOST_SIZE


def levels_are_right(levels):
    """Tell whether there may be so many children, with these levels."""
    return len(levels) <= MOST_CHILDREN and all([level <= MOST_LEVEL for level in levels])


def groups_are_right(n, levels, groups):
    """Tell whether each child has one group, and each group is below n."""
    return len(groups) == len(levels) and all([group < n for group in groups])


def levels_by_group(n, levels, groups):
    """Give for each of the n groups, from group 0 on, its children's levels."""
    grouped = [[] for group in range(n)]
    for level, group in zip(levels, groups):
        grouped[group].append(level)
    return grouped


def spread(members):
    """Give the greatest level less the least one of a group's levels."""
    # An empty group has neither a greatest nor a least level; its spread is told as 0.
    if not members:
        return 0
    return max(members) - min(members)
