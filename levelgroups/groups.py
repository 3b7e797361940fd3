"""The calls: how wide groups of children are, which are best or most even, and how few are enough."""

MOST_CHILDREN = 9
MOST_LEVEL = 1000
MOST_GROUPS = 9
MOST_SIZE = 9
MOST_SPREAD = 1000


def looks(n, size, levels, groups):
    """Answer all spreads together, then the greatest.

    The answer is -22 alone where the call isn't as told, and -28 alone where
    a group has more than size children.
    """
    if not (counts_are_right(n, size) and levels_are_right(levels)):
        return [-22]
    if not groups_are_right(n, levels, groups):
        return [-22]
    grouped = levels_by_group(n, levels, groups)
    if any([len(members) > size for members in grouped]):
        return [-28]
    spreads = [spread(members) for members in grouped]
    return [sum(spreads), max(spreads)]


def best(n, size, levels):
    """Answer the least that all spreads together can be, and the pieces that have it.

    The pieces are told by how many they are and how many children each has,
    from the least level on. The answer is -22 alone where the call isn't as
    told, and -33 alone where there are more children than the groups take.
    """
    refusal = refusal_of_pieces(n, size, levels)
    if refusal < 0:
        return [refusal]
    row = sorted(levels)
    cuts = cuts_in_order(n, size, len(row))
    totals = [sum(piece_spreads(row, cut)) for cut in cuts]
    return first_of_least(totals, cuts)


def even(n, size, levels):
    """Answer the least that the greatest spread can be, and the pieces that have it.

    The pieces are told, and the call is refused, as by best.
    """
    refusal = refusal_of_pieces(n, size, levels)
    if refusal < 0:
        return [refusal]
    row = sorted(levels)
    cuts = cuts_in_order(n, size, len(row))
    # Without children there is no piece, so no spread is above 0.
    widest = [max(piece_spreads(row, cut), default=0) for cut in cuts]
    return first_of_least(widest, cuts)


def few(size, most, levels):
    """Answer how few pieces are enough, so that no spread is above most.

    The answer is -22 alone where the call isn't as told.
    """
    if not (size_is_right(size) and most <= MOST_SPREAD and levels_are_right(levels)):
        return [-22]
    return [pieces_enough(sorted(levels), size, most)]


def refusal_of_pieces(n, size, levels):
    """Give the refusal of a row that isn't to be cut, or 0 where it's cut."""
    if not (counts_are_right(n, size) and levels_are_right(levels)):
        return -22
    if len(levels) > n * size:
        return -33
    return 0


def counts_are_right(n, size):
    """Tell whether there may be n groups of at most size children each."""
    return 1 <= n <= MOST_GROUPS and size_is_right(size)


def size_is_right(size):
    """Tell whether a group may have at most size children."""
    return 1 <= size <= MOST_SIZE


def levels_are_right(levels):
    """Tell whether there may be so many children, with these levels."""
    return len(levels) <= MOST_CHILDREN and all([level <= MOST_LEVEL for level in levels])


def groups_are_right(n, levels, groups):
    """Tell whether each child has one group, and each group is below n."""
    return len(groups) == len(levels) and all([group < n for group in groups])


def levels_by_group(n, levels, groups):
    """Give for each of the n groups, from group 0 on, its children's levels."""
    grouped = [[] for group in range(n)]
    for level, group in zip(levels, groups):
        grouped[group].append(level)
    return grouped


def spread(members):
    """Give the greatest level less the least one of a group's levels."""
    # An empty group has neither a greatest nor a least level; its spread is told as 0.
    if not members:
        return 0
    return max(members) - min(members)


def cuts_in_order(n, size, children):
    """Give every cut of a row of so many children, told by its pieces' lengths.

    Of two cuts stands first which has the shorter piece where they first differ.
    """
    cuts = []
    begun = [[]]
    while begun:
        lengths = begun.pop()
        left = children - sum(lengths)
        if left == 0:
            cuts.append(lengths)
        elif len(lengths) < n:
            # What is put in last is gone on with first: that must be the shortest piece.
            for length in range(min(size, left), 0, -1):
                begun.append(lengths + [length])
    return cuts


def piece_spreads(row, lengths):
    """Give the spread of each piece of a row that is cut into these lengths."""
    spreads = []
    start = 0
    for length in lengths:
        end = start + length
        spreads.append(spread(row[start:end]))
        start = end
    return spreads


def first_of_least(spreads, cuts):
    """Give the least of the spreads that the cuts have, and the first cut that has it."""
    least = min(spreads)
    # The cuts stand in their order, so the first that is as good is the one to tell.
    told = cuts[spreads.index(least)]
    return [least, len(told)] + told


def pieces_enough(row, size, most):
    """Give how many pieces a row needs, so that no spread is above most."""
    pieces = 0
    start = 0
    while start < len(row):
        # A piece that goes as far as it may leaves the fewest children to the others.
        start = farthest_end(row, start, size, most)
        pieces = pieces + 1
    return pieces


def farthest_end(row, start, size, most):
    """Give where the piece that begins at start ends, if it's as long as may be."""
    last = min(start + size, len(row))
    end = start
    while end < last and row[end] - row[start] <= most:
        end = end + 1
    return end
