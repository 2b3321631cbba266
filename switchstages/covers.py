"""Whether what one entry seeks is covered by what others seek."""

# A part tells the words of one key: (LOW, HIGH) for a range, otherwise (WORD, MASK). A whole is a part for each key.

from switchstages.entries import as_mask


def whole_of(pairs, sought):
    """The whole of all words that hit what an entry seeks."""
    return tuple([
        part if kind == "range" else as_mask(kind, width, part) for (kind, width), part in zip(pairs, sought)
    ])


def is_covered(pairs, whole, others):
    """Whether all words of a whole are words of others, too."""
    return loose_piece(pairs, whole, others) is None


def words_beside(pairs, whole, others):
    """Any words of a whole that are none of others; None if there are none."""
    found = loose_piece(pairs, whole, others)
    while found is not None and found[1]:
        piece, near = found
        at = greatest_of(pairs, near)
        # Some piece beside has such words, for the piece itself has some.
        for beside in pieces_beside(pairs, piece, near[at]):
            found = loose_piece(pairs, beside, near[:at] + near[at + 1:])
            if found is not None:
                break
    return None if found is None else tuple([first for first, _ in found[0]])


def loose_piece(pairs, whole, others):
    """A piece of a whole with words that are none of others, and what it shares with these; None for none."""
    left = [(whole, others)]
    while left:
        piece, near = left.pop()
        shared = [shared_by(pairs, piece, other) for other in near]
        near = [other for other in shared if other is not None]
        # Too few words, even if no two of the others shared one.
        if sum([size_of_whole(pairs, other) for other in near]) < size_of_whole(pairs, piece):
            return piece, near
        at = greatest_of(pairs, near)
        rest = near[:at] + near[at + 1:]
        left.extend([(beside, rest) for beside in pieces_beside(pairs, piece, near[at])])
    return None


def greatest_of(pairs, wholes):
    """The index of the whole with the most words: taken away first, it leaves the fewest."""
    sizes = [size_of_whole(pairs, whole) for whole in wholes]
    return sizes.index(max(sizes))


def size_of_whole(pairs, whole):
    """How many words a whole has."""
    size = 1
    for (kind, width), (first, second) in zip(pairs, whole):
        size = size * (second - first + 1 if kind == "range" else 1 << (width - ones_in(second)))
    return size


def ones_in(word):
    """How many bits of a word are 1."""
    ones = 0
    while word > 0:
        word = word & (word - 1)
        ones = ones + 1
    return ones


def shared_by(pairs, whole, other):
    """The whole of the words that both have; None if they share none."""
    parts = []
    for (kind, _), one, two in zip(pairs, whole, other):
        part = shared_range(one, two) if kind == "range" else shared_mask(one, two)
        if part is None:
            return None
        parts.append(part)
    return tuple(parts)


def shared_range(one, two):
    """The words that two ranges share; None if they share none."""
    low, high = max(one[0], two[0]), min(one[1], two[1])
    return (low, high) if low <= high else None


def shared_mask(one, two):
    """The words that two masks share; None if they share none."""
    if (one[0] ^ two[0]) & one[1] & two[1] != 0:
        return None
    return (one[0] | two[0], one[1] | two[1])


def pieces_beside(pairs, whole, inner):
    """Wholes that share nothing, and that have together the words of a whole that are not in one within it."""
    pieces = []
    for index, (kind, _) in enumerate(pairs):
        part, within = whole[index], inner[index]
        found = ranges_beside(part, within) if kind == "range" else masks_beside(part, within)
        # Keys ahead are as in the inner one here, so that no word comes twice.
        pieces.extend([inner[:index] + (beside,) + whole[index + 1:] for beside in found])
    return pieces


def ranges_beside(part, inner):
    """The ranges of a range's words that are below and above the one within it."""
    found = []
    if part[0] < inner[0]:
        found.append((part[0], inner[0] - 1))
    if inner[1] < part[1]:
        found.append((inner[1] + 1, part[1]))
    return found


def masks_beside(part, inner):
    """Masks that share nothing, and that have together the words of a mask that are not in the one within it."""
    found = []
    word, mask = part
    free = inner[1] & ~mask
    while free > 0:
        bit = free & -free
        free = free ^ bit
        mask = mask | bit
        kept = inner[0] & bit
        found.append((word | (bit ^ kept), mask))
        word = word | kept
    return found
