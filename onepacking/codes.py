"""Codes: how long the codeword of each symbol is, and which."""

LONGEST_WORD = 15


def weight_of(item):
    """How often what stands in the item comes."""
    return item[0]


def is_leaf(item):
    """Whether the item is a leaf, not a package."""
    return item[1]


def row_behind(leaves, row):
    """The row of items behind this one: the leaves and the packages of this one."""
    packages = [(weight_of(row[k]) + weight_of(row[k + 1]), False) for k in range(0, len(row) - 1, 2)]
    # Sorting leaves what weighs the same in its order: so leaves come ahead of packages.
    return sorted(leaves + packages, key=weight_of)


def leaf_counts(leaves):
    """Of each row of items, the last first, how many of its first leaves are counted."""
    rows = [leaves]
    while len(rows) < LONGEST_WORD:
        rows.append(row_behind(leaves, rows[-1]))
    counts = []
    wanted = 2 * len(leaves) - 2
    for row in reversed(rows):
        alone = len([item for item in row[:wanted] if is_leaf(item)])
        counts.append(alone)
        # Packages stand in the order of the row they're made of: the first of them hold just its first items.
        wanted = 2 * (wanted - alone)
    return counts


def code_lengths(often):
    """The lengths of a code by how often each symbol comes."""
    lengths = [0] * len(often)
    symbols = sorted([symbol for symbol, times in enumerate(often) if times], key=lambda symbol: often[symbol])
    if len(symbols) == 1:
        lengths[symbols[0]] = 1
    if len(symbols) < 2:
        return lengths
    for alone in leaf_counts([(often[symbol], True) for symbol in symbols]):
        for symbol in symbols[:alone]:
            lengths[symbol] += 1
    return lengths


def codewords(lengths):
    """The codeword's number of each symbol that has a length."""
    words = {}
    symbols = sorted([symbol for symbol, length in enumerate(lengths) if length], key=lambda symbol: lengths[symbol])
    upcoming = 0
    before = 0
    for symbol in symbols:
        upcoming <<= lengths[symbol] - before
        words[symbol] = upcoming
        upcoming += 1
        before = lengths[symbol]
    return words


def is_whole(lengths):
    """Whether the lengths make a whole code, or are of no symbol at all."""
    told = [length for length in lengths if length]
    if len(told) < 2:
        return told == [] or told == [1]
    return sum([1 << (LONGEST_WORD - length) for length in told]) == 1 << LONGEST_WORD
