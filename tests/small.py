"""The program of the interface's examples, its contents, and one at the bounds of all that programs may have."""

HEADS = (("base", (("kind", 8), ("ttl", 8))), ("tag", (("mark", 8),)))
WALK = (
    ("start", "base", ("by", ("field", "base", "kind"), ((1, 255, "more"),), "accept")),
    ("more", "tag", ("accept",)),
)
KIND, TTL, MARK, OLD = ("field", "base", "kind"), ("field", "base", "ttl"), ("field", "tag", "mark"), ("local", "old")
IN, OUT, GONE = ("local", "in"), ("local", "out"), ("local", "gone")
SEND = ("send", (("port", 8),), (("set", OUT, ("param", "port")),))
DROP = ("drop", (), (("set", GONE, 1),))
HOPS = ("ways", ((TTL, "range"),), ("send", "drop"), ("drop", ()), 4)
COUNTED = (("touch", "hits", MARK, "add", 1, OLD), ("set", MARK, OLD))
AGED = (("set", TTL, ("sub", TTL, 1)),)
CONTROL = (("table", "ways"), ("if", ("same", ("held", "tag"), 1), COUNTED, AGED))
SMALL = (HEADS, (("old", 16),), WALK, ("base", "tag"), (("hits", 16, 4),), (SEND, DROP), (HOPS,), CONTROL)
FILLED = (((((1, 64),), "send", (3,)), (((65, 255),), "send", (4,))),)
NONE = ((0, 0, 0, 0),)
PARTS = ("headers", "locals", "parser", "order", "registers", "actions", "tables", "control")


def small_with(**parts):
    """The small program with other parts, by their names."""
    return tuple(parts.get(name, part) for name, part in zip(PARTS, SMALL))


def controlled(*items):
    """The small program with these items in its control."""
    return small_with(control=tuple(items))


def deep_expression(deep, leaf=1, side=1):
    """An expression that is this deep, on one side alone."""
    return leaf if deep == 1 else ("add", *(deep_expression(deep - 1, leaf, side), 2)[::side])


def deep_condition(deep, leaf=("same", 1, 1)):
    """A condition that is this deep."""
    return leaf if deep == 1 else ("not", deep_condition(deep - 1, leaf))


def deep_ifs(deep, inner=(("put", "tag"),), branch=0):
    """A block of ifs that stand this deep within one another, with items in the innermost block."""
    if deep == 0:
        return inner
    block = deep_ifs(deep - 1, inner, branch)
    return (("if", ("same", 1, 1), *((block, ()) if branch == 0 else ((), block))),)


def full_program():
    """A program that has as much of everything as programs may have."""
    names = [f"name_{at}_of_12_s"[:12] for at in range(12)]
    names = [name[:-2] + f"{at:02d}" for at, name in enumerate(names)]
    widths = (32, 32, 32, 4, 4, 4, 4, 4, 4, 4, 2, 2)
    headers = tuple((name, tuple(zip(names, widths))) for name in names[:6])
    place, other = ("field", names[0], names[0]), ("field", names[1], names[4])
    cases = tuple((at, 15, "accept") for at in range(8))
    states = tuple((names[at], names[at] if at < 6 else None, ("go", names[at + 1])) for at in range(7))
    states += ((names[7], None, ("by", other, cases, "refuse")),)
    params = tuple((name, 32) for name in names[:4])
    touch = ("touch", names[0], deep_expression(5, place), "greatest", deep_expression(5, ("held", names[1]), -1),
        place)
    steps = (touch,) * 7 + (("set", place, deep_expression(5, ("param", names[3]))),)
    keys = ((place, "range"), (other, "mask"), (("field", names[2], names[5]), "prefix"))
    tables = tuple((name, keys, tuple(names[:6]), (names[5], (4294967295,) * 4), 32) for name in names[:6])
    condition = deep_condition(3, ("both", ("same", deep_expression(5), 1), ("from", deep_expression(5), place)))
    inner = tuple(("table", name) for name in names[:6]) + (touch,) * 6
    ((_, _, first, _),) = deep_ifs(3, inner)
    control = (("put", names[0]),) * 11 + (("if", condition, (touch,) * 12, (("if", condition, first, (touch,)),)),)
    return (
        headers, tuple((name, 32) for name in names[:8]), states, tuple(names[:6]),
        tuple((name, 32, 16) for name in names[:4]), tuple((name, params, steps) for name in names), tables, control,
    )
