"""Chains of units, each of which leans on the one ahead: the longest ones, and why each one leans."""

from switchstages.leanings import leaned_on, worths_of_source
from switchstages.plans import atoms_asked, way_told


def all_leanings(plan):
    """For each unit those on which it leans."""
    return [leaned_on(plan, index) for index in range(len(plan.units))]


def longest_to(leanings, first):
    """For each unit the longest chain of indexes that ends at it and begins at the first one; at any if it is None."""
    chains = []
    for index, others in enumerate(leanings):
        ahead = [chains[other] for other in others if chains[other] is not None]
        # Of chains of one length the first one is taken.
        longest = max(ahead, key=len) if ahead else None
        if longest is not None:
            chains.append(longest + [index])
        else:
            chains.append([index] if first is None or first == index else None)
    return chains


def chain_told(plan, indexes):
    """The chain of these units, with why each one leans on the one ahead."""
    told = [(indexes[0], None)]
    for other, index in zip(indexes, indexes[1:]):
        told.append((index, why_leaned(plan, index, other)))
    return tuple(told)


def why_leaned(plan, index, other):
    """Why a unit leans on another one."""
    for atom in plan.guards[index]:
        if plan.makers[atom] == other:
            return ("atom", atom)
    for box in plan.reads[index]:
        if other in plan.writers[box]:
            fixed = worths_of_source(plan, index, box, other)
            if fixed is not None:
                atoms = atoms_asked(plan, plan.writers[box] + [index])
                return ("source", box, way_told(plan, fixed, atoms))
    return ("touch",)


def chain_to(plan, index):
    """The longest chain that ends at a unit."""
    return chain_told(plan, longest_to(all_leanings(plan), None)[index])


def chain_beyond(plan, gap, many):
    """What the chains show that a layout of this gap in so many stages cannot have: a paper, or None."""
    leanings = all_leanings(plan)
    longest = max([[]] + longest_to(leanings, None), key=len)
    if len(longest) > many:
        return ("chain", chain_told(plan, longest))
    for touches in plan.touches:
        for first in touches:
            chains = longest_to(leanings, first)
            for chain in [chains[last] for last in touches if chains[last] is not None]:
                if len(chain) > gap:
                    return ("apart", chain_told(plan, chain))
    return None
