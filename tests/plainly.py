"""The plain meaning of programs once more, told another way: headers as dicts, what is done as a walk over texts."""

MASK = 2 ** 32 - 1


class Plainly:
    """One packet in a program: its locals, its held headers, and the cells that it touches."""

    def __init__(self, program, contents, cells):
        self.program, self.contents = program, contents
        self.own = dict.fromkeys(["in", "out", "gone"] + [name for name, _ in program[1]], 0)
        self.wide = {"in": 8, "out": 8, "gone": 1, **dict(program[1])}
        self.heads = {name: None for name, _ in program[0]}
        self.cells = {name: list(row) for (name, _, _), row in zip(program[4], cells)}

    def filling(self):
        told = [self.own[name] for name in self.wide]
        for name, fields in self.program[0]:
            held = self.heads[name]
            told += [0] * (1 + len(fields)) if held is None else [1] + [held[field] for field, _ in fields]
        return tuple(told)

    def left(self):
        return tuple(tuple(self.cells[name]) for name, _, _ in self.program[4])

    def worth(self, told, args):
        if isinstance(told, int):
            return told
        first, *rest = told
        if first == "local":
            return self.own[rest[0]]
        if first == "field":
            return (self.heads[rest[0]] or {}).get(rest[1], 0)
        if first == "param":
            return args[rest[0]]
        if first == "held":
            return int(self.heads[rest[0]] is not None)
        one, two = (self.worth(part, args) for part in rest)
        return {
            "add": lambda: (one + two) % 2 ** 32, "sub": lambda: (one - two) % 2 ** 32, "and": lambda: one & two,
            "or": lambda: one | two, "xor": lambda: one ^ two, "left": lambda: one * 2 ** (two % 32) % 2 ** 32,
            "right": lambda: one // 2 ** (two % 32),
        }[first]()

    def holds(self, told):
        first, *rest = told
        if first == "not":
            return not self.holds(rest[0])
        if first in ("both", "either"):
            return (all if first == "both" else any)([self.holds(part) for part in rest])
        one, two = (self.worth(part, {}) for part in rest)
        return {"same": one == two, "other": one != two, "below": one < two, "from": one >= two}[first]

    def give(self, place, word):
        if place[0] == "local":
            self.own[place[1]] = word % 2 ** self.wide[place[1]]
        elif self.heads[place[1]] is not None:
            self.heads[place[1]][place[2]] = word % 2 ** dict(dict(self.program[0])[place[1]])[place[2]]

    def do(self, item, args):
        getattr(self, "do_" + item[0])(args, *item[1:])

    def do_set(self, args, place, told):
        self.give(place, self.worth(told, args))

    def do_put(self, _, name):
        self.heads[name] = {field: 0 for field, _ in dict(self.program[0])[name]}

    def do_strike(self, _, name):
        self.heads[name] = None

    def do_touch(self, args, name, at, way, told, into):
        width, many = {key: (width, many) for key, width, many in self.program[4]}[name]
        at, word = self.worth(at, args) % many, self.worth(told, args) % 2 ** width
        old = self.cells[name][at]
        ways = {"add": (old + word) % 2 ** width, "set": word, "greatest": max(old, word), "least": min(old, word)}
        self.cells[name][at] = ways.get(way, old | word)
        if into is not None:
            self.give(into, old)

    def do_if(self, _, condition, first, second):
        for item in first if self.holds(condition) else second:
            self.do(item, {})

    def do_table(self, _, name):
        index = [table[0] for table in self.program[6]].index(name)
        _, keys, _, default, _ = self.program[6][index]
        name, args = default
        for sought, action, given in reversed(self.contents[index]):
            if all(self.hits(place, kind, part) for (place, kind), part in zip(keys, sought)):
                name, args = action, given
        (found,) = [action for action in self.program[5] if action[0] == name]
        for step in found[2]:
            self.do(step, {param: word for (param, _), word in zip(found[1], args)})

    def hits(self, place, kind, part):
        word = self.worth(place, {})
        wide = self.wide[place[1]] if place[0] == "local" else dict(dict(self.program[0])[place[1]])[place[2]]
        return key_hit(kind, wide, part, word)

    def control(self):
        for item in self.program[7]:
            self.do(item, {})


def key_hit(kind, width, part, word):
    """Whether a word hits what is sought by one key, told by texts of bits."""
    if kind == "exact":
        return word == part
    bits, other = f"{word:0{width}b}", f"{part[0]:0{width}b}"
    if kind == "prefix":
        return bits[:part[1]] == other[:part[1]]
    if kind == "mask":
        return all(one == two for one, two, asked in zip(bits, other, f"{part[1]:0{width}b}") if asked == "1")
    return word in range(part[0], part[1] + 1)
