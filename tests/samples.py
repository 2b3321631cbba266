"""Headers, frames and values that several test files use."""

import copy

HEADERS = (("base", (("kind", 8),)), ("tag", (("mark", 3), ("next", 5))))
PARSER = (
    ("start", "base", ("by", ("field", "base", "kind"), ((7, 15, "more"),), "accept")),
    ("more", "tag", ("accept",)),
)
FRAME = (HEADERS, PARSER, ("base", "tag"))
TURNED = (HEADERS, PARSER, ("tag", "base"))

# Headers at the upper bounds: 6 of them, 16 bytes, 12 fields, fields of width 1 and 32.
WIDEST = (
    ("h0", tuple(("f" + str(at), 1) for at in range(8))),
    ("h1", (("w0", 32), ("w1", 32), ("w2", 32), ("w3", 32))),
    ("h2", tuple(("f" + str(at), 2) for at in range(12))),
    ("h3", (("a", 1), ("b", 31), ("c", 8))),
    ("h4", (("whole", 32),)),
    ("abcdefghij_2", (("abcdefghij_2", 8),)),
)

KEPT_WORDS = (
    "header local state read accept refuse go by case else order register action param table key exact prefix mask "
    "range default room control end set put strike touch add greatest least or into apply if then not both and "
    "either held in out gone entry to"
).split()

WRONG_NAMES = KEPT_WORDS + [
    "", "a" * 13, "A", "aB", "1a", "_a", "a-b", "a b", " a", "a ", "a\n", "\u00e9", "a\u00e9", "\uff41", "a\u0663",
    "a.b", "$a", "\ud800", None, True, False, 0, 1, b"a", ("a",), ["a"], {"a": 1}, {"a"}, (), object(),
]
RIGHT_NAMES = ["a", "z", "a" * 12, "z9_", "a_", "a0", "headers", "ins", "i", "toto", "accepted", "base"]


def nested(kind, deep):
    """A tuple, list or dict nested this deep."""
    value = None
    for _ in range(deep):
        value = {"a": value} if kind == "dict" else [value] if kind == "list" else (value, value)
    return value


# None of these is anything that this part of the program takes.
JUNK = [
    None, True, False, -1, 10 ** 399, -(10 ** 399), "", "text", "accept", b"", b"ab", "a" * 40000, [], {}, set(),
    {"a": 1}, {1, 2}, (None,), ("base",), ((),), ([],), ((((1,),),),), object(), len, ValueError, range(3),
    nested("tuple", 12), nested("list", 30), nested("dict", 30),
]
DEEP_TUPLE = (None,)
for _ in range(29):
    DEEP_TUPLE = (DEEP_TUPLE,)
JUNK.append(DEEP_TUPLE)


def assert_raises(case, error, attribute, value, call, /, *args, **named):
    """That the call raises just this error, with just this value, and leaves its arguments alone."""
    before = shape((args, named))
    try:
        call(*args, **named)
    except ValueError as caught:
        case.assertIs(caught.__class__, error)
        case.assertIs(getattr(caught, attribute), value)
    else:
        case.fail(f"{call.__name__} raised nothing for {args} {named}")
    case.assertEqual(shape((args, named)), before)


def shape(value):
    """A copy of a value, as deep as it can change."""
    if isinstance(value, (tuple, list)):
        return [value.__class__, [shape(part) for part in value]]
    if isinstance(value, dict):
        return [dict, [(key, shape(part)) for key, part in value.items()]]
    return copy.copy(value) if isinstance(value, set) else value
