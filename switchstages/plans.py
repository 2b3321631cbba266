"""Made programs as they are laid: who writes, reads and touches what, under which guards, and in which ways."""

from switchstages.made import atom_written, boxes_read, boxes_written, guard_of, worths_of

MOST_WAYS = 16384


class Plan:
    """The units of a made program, by their indexes: guards as dicts, reads, and who writes, reads, touches what."""

    def __init__(self, program, made):
        widths, self.units = made
        self.guards = [worths_asked(unit) for unit in self.units]
        self.reads = [boxes_read(unit) for unit in self.units]
        self.writes = [boxes_written(unit) for unit in self.units]
        self.readers = [[] for _ in widths]
        self.writers = [[] for _ in widths]
        self.touches = [[] for _ in program[4]]
        # Of each atom its worths, ascending, and the unit that writes it.
        self.worths = {}
        self.makers = {}
        for index, unit in enumerate(self.units):
            for box in self.reads[index]:
                self.readers[box].append(index)
            for box in self.writes[index]:
                self.writers[box].append(index)
            if unit[0] == "touch":
                self.touches[unit[2]].append(index)
            atom = atom_written(unit)
            if atom is not None:
                least, most = worths_of(program, unit)
                self.worths[atom] = list(range(least, most + 1))
                self.makers[atom] = index


def worths_asked(unit):
    """The worths that the guard of a unit asks, by the atoms."""
    return {atom: worth for atom, worth in guard_of(unit)}


def atoms_asked(plan, indexes):
    """The atoms of the guards of these units, ascending."""
    return sorted(set([atom for index in indexes for atom in plan.guards[index]]))


def how_many_ways(plan, atoms):
    """How many ways these atoms have together."""
    many = 1
    for atom in atoms:
        many = many * len(plan.worths[atom])
    return many


def most_ways(plan):
    """How many ways the atoms that matter for one wish have together at most."""
    many = [how_many_ways(plan, atoms_asked(plan, touches)) for touches in plan.touches]
    for writers, readers in zip(plan.writers, plan.readers):
        asked = atoms_asked(plan, writers)
        many.append(how_many_ways(plan, asked))
        for index in readers:
            others = [atom for atom in plan.guards[index] if atom not in asked]
            many.append(how_many_ways(plan, asked + others))
    return max(many)


def joined(one, other):
    """The guard that asks what both ask; None if they ask one atom for different worths."""
    both = {atom: worth for atom, worth in one.items()}
    for atom, worth in other.items():
        if both.get(atom, worth) != worth:
            return None
        both[atom] = worth
    return both


def are_active_together(plan, one, other):
    """Whether both units are active in some way."""
    return joined(plan.guards[one], plan.guards[other]) is not None


def is_met(fixed, guard):
    """Whether a guard holds in each way that has these worths."""
    return all([fixed.get(atom) == worth for atom, worth in guard.items()])


def is_missed(fixed, guard):
    """Whether a guard holds in no way that has these worths."""
    return any([fixed.get(atom, worth) != worth for atom, worth in guard.items()])


def with_worth(fixed, atom, worth):
    """These worths and that of one more atom."""
    more = {other: known for other, known in fixed.items()}
    more[atom] = worth
    return more


def left_to_meet(fixed, guard):
    """What a guard asks besides these worths of atoms; None if these miss it."""
    left = {}
    for atom, worth in guard.items():
        if atom not in fixed:
            left[atom] = worth
        elif fixed[atom] != worth:
            return None
    return left


def missing_all(plan, fixed, guards):
    """Worths of atoms, these among them, by which all of these guards are missed; None if there are none."""
    near = [left for left in [left_to_meet(fixed, guard) for guard in guards] if left is not None]
    if not near:
        return fixed
    # The guard with the fewest atoms left is the hardest one to miss: one of them has to be of another worth.
    hardest = min(near, key=len)
    for atom, barred in hardest.items():
        for worth in plan.worths[atom]:
            if worth != barred:
                found = missing_all(plan, with_worth(fixed, atom, worth), near)
                if found is not None:
                    return found
        # Its other worths have been tried, so behind them it has this one.
        fixed = with_worth(fixed, atom, barred)
    return None


def way_told(plan, fixed, atoms):
    """The least way over these atoms, which ascend, that has these worths."""
    return tuple([(atom, fixed.get(atom, plan.worths[atom][0])) for atom in atoms])
