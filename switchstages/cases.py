"""Which words of a place lead from a state to an aim."""


def word_to(onward, aim, mask, bits):
    """A word of the place of a NEXT that leads to the aim, and has these bits where mask has some; None for none."""
    barred = []
    for wanted, asked, other in onward[2]:
        if other != aim:
            barred.append((wanted, asked))
        elif (wanted ^ bits) & asked & mask == 0:
            word = word_beside(asked | mask, wanted | bits, barred)
            if word is not None:
                return word
    return word_beside(mask, bits, barred) if onward[3] == aim else None


def word_beside(mask, bits, barred):
    """A word that has these bits where mask has some, and is hit by none of the cases barred; None for none."""
    near = [(wanted, asked) for wanted, asked in barred if (wanted ^ bits) & asked & mask == 0]
    free = 0
    for _, asked in near:
        free = free | asked & ~mask
    # Bit by bit: for each set of cases that can be missed by the bits so far, as a number, one word that misses it.
    reached = {0: bits}
    while free > 0:
        bit = free & -free
        free = free ^ bit
        by_one = missed_by(near, bit, 0)
        by_zero = missed_by(near, bit, bit)
        grown = {}
        for missed, word in reached.items():
            grown[missed | by_one] = word | bit
            grown[missed | by_zero] = word
        reached = grown
    return reached.get((1 << len(near)) - 1)


def missed_by(near, bit, other):
    """Which cases, as a number, are missed because they want the other worth of this bit."""
    missed = 0
    for index, (wanted, asked) in enumerate(near):
        if asked & bit != 0 and wanted & bit == other:
            missed = missed | 1 << index
    return missed
