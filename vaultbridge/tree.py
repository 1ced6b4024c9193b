"""Roots of lists of leaves, and papers that show what such a list holds and how it grew."""

from vaultbridge.errors import InvalidArgument


def left_size(size):
    """How many of the leaves of a list are left when it is split; it has two leaves or more."""
    return 1 << ((size - 1).bit_length() - 1)


def root(digests, leaves):
    """The root of a list of leaves."""
    if not leaves:
        return digests.number(("empty",))
    if len(leaves) == 1:
        return digests.number(("leaf", leaves[0]))
    middle = left_size(len(leaves))
    left = root(digests, leaves[:middle])
    right = root(digests, leaves[middle:])
    return digests.number(("node", left, right))


def parts_beside(size, index):
    """The parts without a leaf, from the leaf upwards: for each split True if the part lies left, its start and end."""
    found = []
    start = 0
    end = size
    while end - start > 1:
        middle = start + left_size(end - start)
        if index < middle:
            found.append((False, middle, end))
            end = middle
        else:
            found.append((True, start, middle))
            start = middle
    found.reverse()
    return found


def leaf_paper(digests, leaves, index):
    """The paper that the list has its leaf at an index."""
    if not 0 <= index < len(leaves):
        raise InvalidArgument("the list has no such index")
    parts = parts_beside(len(leaves), index)
    return tuple([root(digests, leaves[start:end]) for _, start, end in parts])


def check_leaf(digests, root, size, index, leaf, paper):
    """True if the paper shows that the list with this root and size has the leaf at the index."""
    if not 0 <= index < size:
        return False
    parts = parts_beside(size, index)
    if len(parts) != len(paper):
        return False
    found = digests.number(("leaf", leaf))
    for (is_left, _, _), other in zip(parts, paper):
        node = ("node", other, found) if is_left else ("node", found, other)
        found = digests.number(node)
    return found == root


def widest_parts(start, end):
    """The positions from a start to an end in as few parts as can be: their starts and sizes.

    Each size is a power of two, and each start a multiple of its size.
    """
    found = []
    while start < end:
        size = 1
        while start % (2 * size) == 0 and start + 2 * size <= end:
            size = 2 * size
        found.append((start, size))
        start += size
    return found


def growth_parts(old_size, new_size):
    """The starts and sizes of the rows of a growth paper."""
    return widest_parts(0, old_size) + widest_parts(old_size, new_size)


def growth_paper(digests, leaves, size):
    """The paper that the first leaves, as many as `size`, are the beginning of the list."""
    if not 0 <= size <= len(leaves):
        raise InvalidArgument("the list has no such beginning")
    parts = growth_parts(size, len(leaves))
    return tuple([(start, many, root(digests, leaves[start:start + many])) for start, many in parts])


def joined(digests, rows):
    """The root of the list that the rows of a growth paper cover from its beginning on."""
    # two neighbours of one size are the halves of one part, since each start is a multiple of its size
    parts = []
    for _, size, found in rows:
        while parts and parts[-1][0] == size:
            _, left = parts.pop()
            found = digests.number(("node", left, found))
            size = 2 * size
        parts.append((size, found))
    if not parts:
        return digests.number(("empty",))
    # what is left gets smaller from part to part, so each part is the left one of all that follow
    _, found = parts.pop()
    for _, left in reversed(parts):
        found = digests.number(("node", left, found))
    return found


def check_growth(digests, old_root, old_size, new_root, new_size, paper):
    """True if the paper shows that the list with the old root and size is the beginning of the new one."""
    if not 0 <= old_size <= new_size:
        return False
    parts = growth_parts(old_size, new_size)
    if [row[:2] for row in paper] != parts or not all([len(row) == 3 for row in paper]):
        return False
    old_rows = [row for row in paper if row[0] < old_size]
    return joined(digests, old_rows) == old_root and joined(digests, paper) == new_root
