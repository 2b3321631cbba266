"""The flow once more, told another way: at each beat all is read off a copy of what stands, then written."""

import copy

from switchstages.tables import told_by

OPS = {
    "add": lambda one, two: (one + two) % 2 ** 32, "sub": lambda one, two: (one - two) % 2 ** 32,
    "and": lambda one, two: one & two, "or": lambda one, two: one | two, "xor": lambda one, two: one ^ two,
    "left": lambda one, two: one * 2 ** (two % 32) % 2 ** 32, "right": lambda one, two: one // 2 ** (two % 32),
}
ASKS = {
    "same": lambda one, two: one == two, "other": lambda one, two: one != two, "below": lambda one, two: one < two,
    "from": lambda one, two: one >= two, "both": lambda one, two: one > 0 and two > 0,
    "either": lambda one, two: one > 0 or two > 0, "not": lambda one, two: one == 0,
}
WAYS = {
    "add": lambda old, word: old + word, "set": lambda old, word: word, "greatest": max, "least": min,
    "or": lambda old, word: old | word,
}


class PlainFlow:
    """A chip at its beats; lookup tells, for a table's index and words, the action and its arguments."""

    def __init__(self, program, made, stages, cells, coming, lookup):
        self.program, self.made, self.stages, self.lookup = program, made, stages, lookup
        self.cells = [list(row) for row in cells]
        self.entries = [beat for beat, _ in coming]
        self.boxes = [list(filling) + [0] * (len(made[0]) - len(filling)) for _, filling in coming]
        self.last = max(stages, default=-1)
        self.beat = 0

    def step(self):
        """Do one beat; what clashes, or None."""
        boxes, cells = copy.deepcopy(self.boxes), copy.deepcopy(self.cells)
        written, touched = {}, {}
        for comer, entry in enumerate(self.entries):
            for unit, stage in zip(self.made[1], self.stages):
                if entry + stage == self.beat and self.active(unit, boxes[comer]):
                    told, cell = self.effect(unit, boxes[comer], cells)
                    for box, word in told:
                        written.setdefault((comer, box), []).append(word)
                    if cell is not None:
                        touched.setdefault(cell[0], []).append(cell)
        clashes = [("box", *key) for key in sorted(written) if len(written[key]) > 1]
        clashes += [("register", key) for key in sorted(touched) if len(touched[key]) > 1]
        if clashes:
            return clashes[0]
        for (comer, box), (word,) in written.items():
            self.boxes[comer][box] = word % 2 ** self.made[0][box]
        for ((at, index, word),) in touched.values():
            self.cells[at][index] = word
        self.beat += 1
        return None

    def active(self, unit, boxes):
        return unit[0] not in ("set", "touch") or all(boxes[atom] == worth for atom, worth in unit[1])

    def effect(self, unit, boxes, cells):
        def worth(part):
            return part[1] if part[0] == "word" else boxes[part[1]]
        if unit[0] == "ask":
            return [(unit[1], int(ASKS[unit[2]](worth(unit[3]), worth(unit[4]))))], None
        if unit[0] == "reckon":
            return [(unit[1], OPS[unit[2]](worth(unit[3]), worth(unit[4])))], None
        if unit[0] == "set":
            return [(unit[2], worth(unit[3]))], None
        if unit[0] == "look":
            action, args = self.lookup(unit[1], [worth(part) for part in unit[2]])
            hit = 1 + list(self.program[6][unit[1]][2]).index(action)
            return [(unit[3], hit)] + list(zip(unit[4], list(args) + [0] * 4)), None
        _, width, many = self.program[4][unit[2]]
        index = worth(unit[3]) % many
        old = cells[unit[2]][index]
        word = WAYS[unit[4]](old, worth(unit[5]) % 2 ** width) % 2 ** width
        return [(unit[6], old)], (unit[2], index, word)

    def standing(self):
        here = [(comer, self.beat - entry, tuple(self.boxes[comer])) for comer, entry in enumerate(self.entries) if
            0 <= self.beat - entry <= self.last]
        return tuple(here), tuple(tuple(row) for row in self.cells)

    def run(self):
        """What flow tells."""
        while self.beat <= max(self.entries, default=0) + 64:
            clash = self.step()
            if clash is not None:
                return ("clash", self.beat, clash)
        return ("through", tuple(tuple(boxes) for boxes in self.boxes), tuple(tuple(row) for row in self.cells))


def lookup_of(program, contents, widths):
    """Look up the contents of a program's tables; widths tells the width of each place."""
    def lookup(index, words):
        _, table_keys, _, default, _ = program[6][index]
        keys = tuple((kind, widths[place]) for place, kind in table_keys)
        words = tuple(word % 2 ** width for word, (_, width) in zip(words, keys))
        return told_by(keys, contents[index], words) or default
    return lookup
