"""A claim of each kind with its papers, and values that are nearly those."""

from switchstages.texts import show_program
from switchstages.units import units_of
from tests.samples import FRAME, TURNED
from tests.small import FILLED, NONE, SMALL
from tests.test_flows import COMING
from tests.test_layouts import CHIP, HASTY, HURRIED, LAID, MADE
from tests.test_tables import KEYS, THREE

DEAD = (FRAME[0], (("start", None, ("go", "last")), ("lone", None, ("accept",)), ("last", None, ("accept",))), FRAME[2])
AGAINST = ("source", ((11, 1), (13, 1)), 7, 3, 5, None)
CHAIN = ((3, None), (4, ("atom", 11)), (5, ("source", 12, ((11, 1),))), (7, ("source", 3, ((11, 1), (13, 1)))))
ROW = ((4, 0), (4, 1), (4, 2), (4, 3), (4, 4), (4, 5), (4, 6), (4, 7), (1, 1))
PACKETS = ((7, (1, 70, 6, 5)), (7, (1, 9, 6)), (7, (0,)), (7, (0, 0)))
OUTCOMES = ((4, (1, 70, 0, 5)), (3, (1, 9, 1)), "refused", "gone")
ARRIVALS = ((0, PACKETS[0]), (1, PACKETS[1]))
# The units without the one that ages what has no tag.
OTHER_MADE = (MADE[0], MADE[1][:10])
# Two touches of one register, one of them behind what the other one was.
TWICE = SMALL[:7] + ((("touch", "hits", 1, "add", 1, ("local", "old")), ("touch", "hits", ("local", "old"), "set", 5,
    None)),)
TWICE_MADE = units_of(TWICE)
TWICE_CHAIN = ((0, None), (1, ("source", 9, ())), (2, ("source", 3, ())))
WIDE_CHIP = (9, 9, 9, 99, 999)
THROUGH = (
    ((7, 4, 0, 0, 1, 1, 70, 1, 0, 1, 4, 1, 0, 1, 1, 69), (7, 3, 0, 1, 1, 1, 9, 1, 1, 1, 3, 1, 1, 1, 1, 8)),
    ((0, 0, 2, 0),),
)
TWO_TOUCHES = SMALL[:7] + ((("touch", "hits", 1, "add", 1, None), ("touch", "hits", 2, "add", 1, None)),)
TWO_MADE = units_of(TWO_TOUCHES)
AT_ONCE = (1, (0, 0))

# Each claim, and papers of it that are accepted.
CLAIMS = [
    (("parsed", FRAME, (1, (23, 35, 9)), ((23,), (1, 3)), (9,)), [()]),
    (("parsed", FRAME, (1, (8, 35)), ((8,), None), (35,)), [()]),
    (("refused", FRAME, (1, (7,))), [()]),
    (("comes back", FRAME), [()]),
    (("lost", TURNED), [(1, (23, 35, 9)), (0, (7, 8))]),
    (("taken", FRAME, ("start", "more", "accept")), [(1, (23, 35, 9)), (0, (7, 8))]),
    (("taken", FRAME, ("start", "accept")), [(1, (8,)), (0, (0, 8))]),
    (("not taken", FRAME, ("more", "accept")), [()]),
    (("not taken", FRAME, ("", "any", "accept", "accept")), [()]),
    (("come to", FRAME, 1), [(1, (7,)), (1, (23, 35, 9))]),
    (("come to", FRAME, 0), [(1, ()), (1, (23, 35, 9))]),
    (("dead", DEAD, 1), [()]),
    (("read", show_program(SMALL), SMALL), [()]),
    (("not read", "header base kind", 16), [()]),
    (("not read", "order end action a end action a end control end", None), [()]),
    (("worked", SMALL, FILLED, NONE, PACKETS, OUTCOMES, ((0, 0, 2, 0),)), [()]),
    (("worked", SMALL, FILLED, NONE, (), (), NONE), [()]),
    (("not worked", SMALL, FILLED, NONE, PACKETS, OUTCOMES, NONE), [()]),
    (("not worked", SMALL, FILLED, NONE, PACKETS, ("gone",) * 4, ((0, 0, 2, 0),)), [()]),
    (("tell alike", KEYS, THREE, KEYS, THREE[:2]), [ROW, tuple((5, at) for at in range(32))]),
    (("tell alike", KEYS, (), (("exact", 3), ("range", 2)), ()), [((0, 0),), ((1, 0), (1, 1))]),
    (("part first", KEYS, THREE, KEYS, THREE[:1], (0, 2)), [((4, 0),), ((5, 0), (5, 1))]),
    (("part first", KEYS, ((((0, 0), (0, 0)), "a", ()),), KEYS, (), (0, 0)), [()]),
    (("idle", KEYS, THREE, 2), [((1, 0), (1, 1)), ((1, 0), (2, 2), (2, 3))]),
    (("looked up", KEYS, THREE, 1), [(1, 3), (0, 2)]),
    (("held by", 4, 3, 12, 4), [((3, 4), (4, 2), (8, 2), (12, 4))]),
    (("held by", 4, 3, 12, 64), [((3, 4), (4, 2), (8, 2), (12, 4)), ((3, 4), (4, 3), (6, 3), (8, 2), (12, 4))]),
    (("not held by", 4, 3, 12, 3), [(3, 4, 8, 12), (3, 7, 11, 12)]),
    (("not held by", 4, 3, 12, 0), [(3, 4, 8, 12), (5,)]),
    (("done alike", SMALL, MADE), [("units",)]),
    (("done otherwise", SMALL, OTHER_MADE), [(FILLED, NONE, (7, 0, 0, 0, 1, 0, 9, 0, 0))]),
    (("right", SMALL, MADE, LAID), [()]),
    (("not right", SMALL, MADE, HASTY), [AGAINST]),
    (("not right", SMALL, MADE, HURRIED), [("late", 4, 11)]),
    (("not right", TWO_TOUCHES, TWO_MADE, AT_ONCE), [("order", (), 0, 1)]),
    (("not right", TWO_TOUCHES, TWO_MADE, (1, (0, 1))), [("gap", 0, 1)]),
    (("sent alike", SMALL, LAID), [("right",)]),
    (("sent otherwise", SMALL, HASTY), [(FILLED, NONE, ARRIVALS)]),
    (("sent otherwise", TWO_TOUCHES, AT_ONCE), [(FILLED, NONE, ARRIVALS[:1])]),
    (("flows", SMALL, FILLED, MADE, LAID, NONE, COMING, *THROUGH), [()]),
    (("clashes", TWO_TOUCHES, FILLED, TWO_MADE, AT_ONCE, NONE, COMING, 0, ("register", 0)), [()]),
    (("before", SMALL, MADE, 7, 4), [LAID, (16, LAID[1])]),
    (("not before", SMALL, MADE, 7, 3), [CHAIN]),
    (("not before", SMALL, MADE, 3, 0), [((3, None),)]),
    (("laid", SMALL, MADE, 1, CHIP), [LAID]),
    (("not laid", SMALL, MADE, 1, (3, 11, 1, 4, 99)), [("chain", CHAIN)]),
    (("not laid", TWICE, TWICE_MADE, 2, WIDE_CHIP), [("apart", TWICE_CHAIN)]),
    (("not laid", SMALL, MADE, 1, (5, 2, 1, 4, 99)), [("units",)]),
    (("not laid", SMALL, MADE, 1, (5, 9, 0, 4, 99)), [("looks",)]),
    (("not laid", SMALL, MADE, 1, (5, 9, 1, 0, 99)), [("room",)]),
]
