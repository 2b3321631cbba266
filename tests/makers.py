"""Many programs, contents, cells, fillings and packets, made by numbers that are the same on each run."""

import random

from switchstages.parsers import is_frame

NAMES = ("a", "b", "c", "d", "base", "tag", "x1", "y_2", "long_name_12", "ins")
KINDS = ("exact", "prefix", "mask", "range")
OPS = ("add", "sub", "and", "or", "xor", "left", "right")
CONDS = ("same", "other", "below", "from")
WAYS = ("add", "set", "greatest", "least", "or")


def many_items(block):
    """How many items stand in a block, within others, too."""
    inner = [many_items(item[2]) + many_items(item[3]) for item in block if item is not None and item[0] == "if"]
    return len(block) + sum(inner)


class Maker:
    """Makes values; equal seeds make equal ones."""

    def __init__(self, seed):
        self.chance = random.Random(seed)

    def upto(self, most):
        return self.chance.randrange(most + 1)

    def pick(self, values):
        return values[self.chance.randrange(len(values))]

    def word(self, width):
        """A word of a width, at the bounds more often than others."""
        most = 2 ** width - 1
        return self.pick([0, 1, most, most // 2, self.upto(most), self.upto(most), self.upto(min(most, 40))])

    def names(self, least, most):
        return self.chance.sample(NAMES, least + self.upto(most - least))

    def headers(self, most=3):
        return tuple((name, self.fields()) for name in self.names(0, most))

    def fields(self):
        parts = [1 + self.upto(15) for _ in range(1 + self.upto(3))]
        parts.append(8 - sum(parts) % 8)
        return tuple(zip(self.chance.sample(NAMES, len(parts)), parts))

    def frame(self, headers=None, most_states=4):
        """Headers, a parser and an order; parsers are made until one keeps to what may come twice along aims."""
        headers = self.headers() if headers is None else headers
        while True:
            names = self.names(1, most_states)
            # Each header at most once makes most parsers right ones; otherwise they are read as it comes.
            heads = [name for name, _ in headers] + [None] * max(1, most_states - len(headers))
            heads = self.chance.sample(heads, len(names)) if self.upto(2) else [self.pick(heads) for _ in names]
            parser = tuple(self.state(headers, name, heads[at], names[at + 1:]) for at, name in enumerate(names))
            order = self.chance.sample([name for name, _ in headers], len(headers))
            if is_frame((headers, parser, tuple(order))):
                return (headers, parser, tuple(order))

    def state(self, headers, name, header, later):
        kind = self.pick(["accept", "go", "go", "by", "by", "by"])
        if kind == "go" and later:
            return (name, header, ("go", self.pick(later)))
        if kind != "by":
            return (name, header, (self.pick(["accept"] * 5 + ["refuse"]),))
        aims = list(later) * 2 + ["accept", "accept", "refuse"]
        place, width = self.pick(
            [(("local", "in"), 8)] + [(("field", head, field), width) for head, parts in headers for field,
                width in parts]
        )
        cases = tuple(self.case(width, aims) for _ in range(self.upto(4)))
        return (name, header, ("by", place, cases, self.pick(aims)))

    def case(self, width, aims):
        mask = self.pick([self.word(width), 2 ** width - 1, 1 << self.upto(width - 1), 0])
        return (self.word(width) & mask, mask, self.pick(aims))

    def program(self):
        headers, parser, order = self.frame()
        own = tuple((name, 1 + self.upto(31)) for name in self.names(0, 3))
        registers = tuple((name, 1 + self.upto(31), 1 + self.upto(15)) for name in self.names(min(1, self.upto(4)), 2))
        places = [("local", name) for name in ("in", "out", "gone") + tuple(name for name, _ in own)]
        places += [("field", name, field) for name, parts in headers for field, _ in parts]
        there = (places, [name for name, _ in headers], [name for name, _, _ in registers])
        actions = tuple(self.action(there, name) for name in self.names(1, 4))
        widths = {("local", "in"): 8, ("local", "out"): 8, ("local", "gone"): 1}
        widths.update({("local", name): width for name, width in own})
        widths.update({("field", name, field): width for name, parts in headers for field, width in parts})
        tables = tuple(self.table(widths, actions, name) for name in self.names(0, 2))
        control = (None,) * 41
        while many_items(control) > 40:
            control = self.block(there, [name for name, *_ in tables], 3)
        return (headers, own, parser, order, registers, actions, tables, control)

    def action(self, there, name):
        params = tuple((param, 1 + self.upto(31)) for param in self.names(0, 2))
        leaves = [("param", param) for param, _ in params]
        return (name, params, tuple(self.step(there, leaves) for _ in range(self.upto(3))))

    def table(self, widths, actions, name):
        keys = []
        for _ in range(1 + self.upto(2)):
            key = (self.pick(list(widths)), self.pick(KINDS))
            if sum(widths[place] for place, _ in keys) + widths[key[0]] <= 48:
                keys.append(key)
        choice = self.chance.sample(actions, 1 + self.upto(len(actions) - 1))
        deed = self.deed(self.pick(choice))
        return (name, tuple(keys), tuple(action[0] for action in choice), deed, 1 + self.upto(5))

    def deed(self, action):
        return (action[0], tuple(self.word(width) for _, width in action[1]))

    def expression(self, there, leaves, deep):
        if deep > 1 and self.upto(2) == 0:
            return (self.pick(OPS), self.expression(there, leaves, deep - 1), self.expression(there, leaves, deep - 1))
        held = [("held", name) for name in there[1]]
        return self.pick([self.word(32), self.word(8), self.word(5)] + there[0] + there[0] + held + leaves * 4)

    def condition(self, there, deep):
        if deep == 1 or self.upto(1) == 0:
            return (self.pick(CONDS), self.expression(there, [], 3), self.expression(there, [], 3))
        kind = self.pick(["not", "both", "either"])
        return (kind, *[self.condition(there, deep - 1) for _ in range(1 if kind == "not" else 2)])

    def step(self, there, leaves=()):
        places, headers, registers = there
        kind = self.pick(["set", "set"] + ["put", "strike"] * bool(headers) + ["touch", "touch"] * bool(registers))
        if kind == "set":
            return ("set", self.pick(places[1:]), self.expression(there, list(leaves), 5))
        if kind != "touch":
            return (kind, self.pick(headers))
        at, word = self.expression(there, list(leaves), 3), self.expression(there, list(leaves), 3)
        return ("touch", self.pick(registers), at, self.pick(WAYS), word, self.pick([None] + places[1:]))

    def block(self, there, tables, deep):
        items = []
        for _ in range(deep + self.upto(4 - deep)):
            kind = self.upto(3)
            if kind == 0 and tables:
                items.append(("table", tables.pop()))
            elif kind == 1 and deep > 0:
                condition = self.condition(there, 3)
                items.append(("if", condition, self.block(there, tables, deep - 1),
                    self.block(there, tables, deep - 1)))
            else:
                items.append(self.step(there))
        return tuple(items)

    def sought(self, kind, width):
        """What an entry seeks by a key of this kind and width."""
        if kind == "exact":
            return self.word(width)
        if kind == "prefix":
            bits = self.pick([0, width, self.upto(width), self.upto(width)])
            return (self.word(width) >> (width - bits) << (width - bits), bits)
        if kind == "mask":
            mask = self.pick([0, 2 ** width - 1, self.word(width), 1 << self.upto(width - 1)])
            return (self.word(width) & mask, mask)
        low, high = sorted([self.word(width), self.word(width)])
        return self.pick([(low, high), (low, high), (low, low), (0, 2 ** width - 1)])

    def contents(self, program, widths):
        """Contents; widths tells the width of each place."""
        actions = {action[0]: action for action in program[5]}
        return tuple(
            tuple(
                (tuple(self.sought(kind, widths[place]) for place, kind in keys),
                    *self.deed(actions[self.pick(choice)]))
                for _ in range(self.upto(room))
            ) for _, keys, choice, _, room in program[6]
        )

    def cells(self, program):
        return tuple(tuple(self.word(width) for _ in range(many)) for _, width, many in program[4])

    def packet(self, most=30):
        return (self.word(8), tuple(self.word(8) for _ in range(self.upto(most))))

    def keys(self, most_bits):
        """Keys of a table that have at most so many bits together."""
        keys = []
        for _ in range(1 + self.upto(2)):
            free = most_bits - sum(width for _, width in keys)
            if free > 0:
                keys.append((self.pick(KINDS), 1 + self.upto(min(free, 32) - 1)))
        return tuple(keys)

    def entries(self, keys, most):
        return tuple(
            (tuple(self.sought(kind, width) for kind, width in keys), self.pick(NAMES), (self.upto(3),) * self.upto(1))
            for _ in range(self.upto(most))
        )
