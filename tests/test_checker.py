"""Points 33 to 37: which papers the checker accepts for which claims, whatever both are."""

import unittest

from switchstages.checker import accepts
from switchstages.layouts import early, leans_on, wrong_in
from switchstages.making import made_of as made_in
from switchstages.ranges import are_marks, prefixes_of
from switchstages.tables import hit_by, told_by
from switchstages.texts import show_program
from switchstages.units import units_of
from tests.claimed import (
    AGAINST, ARRIVALS, CHAIN, CLAIMS, OUTCOMES, PACKETS, ROW, THROUGH, TWICE, TWICE_CHAIN, TWICE_MADE, TWO_MADE,
    TWO_TOUCHES, WIDE_CHIP,
)
from tests.madeup import BASE, OWN, cases, laid_about
from tests.makers import Maker
from tests.plainly import key_hit
from tests.samples import FRAME, JUNK, TURNED
from tests.small import FILLED, NONE, SMALL, controlled
from tests.test_flows import COMING
from tests.test_layouts import CHIP, HASTY, HURRIED, LAID, MADE, asks, made_of
from tests.test_tables import KEYS, THREE, all_words
from tests.test_units import wide_program

ONE = ("word", 1)
ALL = ((0, 0), (0, 0))


def bent(value):
    """Values that are nearly this one: each part exchanged, left out, told twice, a list in the place of a tuple."""
    if isinstance(value, tuple):
        yield list(value)
        yield value + (None,)
        for at, part in enumerate(value):
            yield value[:at] + value[at + 1:]
            yield value[:at] + (part, part) + value[at + 1:]
            for other in bent(part):
                yield value[:at] + (other,) + value[at + 1:]
    elif isinstance(value, bool) or value is None:
        yield from [0, 1, "none", ()]
    elif isinstance(value, int):
        yield from [str(value), -1, 10 ** 399, None, (value,), [value], -value - 1]
        if value in (0, 1):
            yield bool(value)
    else:
        yield from [value + "x", value.upper(), "", None, 0, (value,)]


def accepted(case, told, *pairs):
    for claim, paper in pairs:
        case.assertIs(accepts(claim, paper), told, (claim[0], claim[3:], paper))


class ClaimsTest(unittest.TestCase):
    def test_the_examples(self):
        alike, parted = ("tell alike", KEYS, THREE, KEYS, THREE[:2]), ("part first", KEYS, THREE, KEYS, THREE[:1],
            (0, 2))
        told = [accepts(alike, ROW), accepts(alike, ROW[:8]), accepts(alike, ROW[1:]), accepts(parted, ((4, 0),)),
            accepts(parted, ()), accepts(alike, ())]
        self.assertEqual(told, [True, False, False, True, False, False])
        told = [accepts(("idle", KEYS, THREE, 2), ((1, 0), (1, 1))), accepts(("looked up", KEYS, THREE, 1), (1, 3)),
            accepts(("held by", 4, 3, 12, 3), prefixes_of(4, 3, 12)), accepts(("not held by", 4, 3, 12, 3),
                (3, 4, 8, 12))]
        self.assertEqual(told, [True, True, False, True])
        told = [accepts(("right", SMALL, MADE, LAID), ()), accepts(("right", SMALL, MADE, HASTY), ()),
            accepts(("not right", SMALL, MADE, HASTY), AGAINST), accepts(("not right", SMALL, MADE, LAID), AGAINST),
            accepts(("not right", SMALL, MADE, HURRIED), ("late", 4, 11))]
        self.assertEqual(told, [True, False, True, False, True])
        chain = CHAIN[:3] + ((7, AGAINST[:1] + (3,) + AGAINST[1:2]),)
        told = [accepts(("not before", SMALL, MADE, 7, 3), chain), accepts(("not before", SMALL, MADE, 7, 4), chain),
            accepts(("before", SMALL, MADE, 7, 4), LAID),
            accepts(("not laid", SMALL, MADE, 1, (3, 11, 1, 4, 99)), ("chain", chain)), accepts("right", ())]
        self.assertEqual(told, [True, False, True, True, False])

    def test_each_claim_with_its_papers(self):
        for claim, papers in CLAIMS:
            accepted(self, True, *[(claim, paper) for paper in papers])
            self.assertIs(accepts(paper=papers[0], claim=claim), True)

    def test_each_claim_with_other_papers(self):
        others = [paper for _, papers in CLAIMS for paper in papers] + JUNK + [("right",), ("units",), "right", ((),),
            0]
        # Of these other papers may show the claim, too.
        several = ("taken", "come to", "before", "held by", "not held by", "not before", "not laid", "tell alike",
            "part first", "idle", "sent otherwise")
        for claim, papers in CLAIMS:
            for paper in others:
                if claim[0] not in several:
                    self.assertIs(accepts(claim, paper), paper in papers, (claim[0], paper))
                elif accepts(claim, paper) and paper not in papers:
                    self.assertTrue(isinstance(paper, tuple) and paper != (), (claim[0], paper))

    def test_nothing_as_a_paper(self):
        for claim, papers in CLAIMS:
            self.assertIs(accepts(claim, ()), () in papers, claim[0])
            for paper in ([], None, False, "", 0, ((),), {}):
                self.assertIs(accepts(claim, paper), False)

    def test_papers_bent_at_each_place(self):
        # Bent ones of these are papers, too: of packets any with the right bits, of words any that show it.
        for claim, papers in CLAIMS:
            for paper in papers:
                for other in bent(paper):
                    found = accepts(claim, other)
                    self.assertIsInstance(found, bool)
                    if claim[0] in ("lost", "taken", "come to"):
                        continue
                    if found:
                        self.assertIn(claim[0], ("sent otherwise", "not held by", "done otherwise"), (claim, other))

    def test_claims_bent_at_each_place(self):
        for claim, papers in CLAIMS:
            if claim[0] in ("tell alike", "idle"):
                continue
            for at in range(len(claim)):
                for other in (None, True, -1, 10 ** 399, "x", [], {}, (None,), ((),), list(claim), claim, "accept"):
                    value = claim[:at] + (other,) + claim[at + 1:]
                    found = accepts(value, papers[0])
                    self.assertIsInstance(found, bool)
                    if found:
                        # The same claim, or another one that is so, too, as with contents without entries.
                        known = other in claim or other == ((),) or claim[0] in ("not taken", "lost")
                        self.assertTrue(known, (claim[0], at, other))
                self.assertIs(accepts(claim[:at] + claim[at + 1:], papers[0]), False)
                self.assertIs(accepts(claim[:at + 1] + (claim[at],) + claim[at + 1:], papers[0]), False)
            self.assertIs(accepts(list(claim), papers[0]), False)
            self.assertIs(accepts(claim + (None,), papers[0]), False)
            self.assertIs(accepts((claim[0].upper(),) + claim[1:], papers[0]), False)

    def test_whatever_both_are(self):
        for value in JUNK:
            for other in JUNK:
                self.assertIs(accepts(value, other), False)
        for kind in {claim[0] for claim, _ in CLAIMS}:
            for value in JUNK:
                for many in (0, 1, 2, 3, 4, 5, 8):
                    self.assertIs(accepts((kind,) + (value,) * many, ()), False)
                for claim, papers in CLAIMS:
                    if claim[0] == kind:
                        self.assertIs(accepts(claim, value), value == () and papers == [()])
                        for at in range(1, len(claim)):
                            self.assertIsInstance(accepts(claim[:at] + (value,) + claim[at + 1:], papers[0]), bool)

    def test_one_of_two_claims_alone(self):
        accepted(self, False, (("refused", FRAME, (1, (23, 35, 9))), ()),
            (("parsed", FRAME, (1, (7,)), (None, None), ()), ()),
            (("parsed", FRAME, (1, (23, 35, 9)), ((23,), (1, 3)), ()), ()), (("comes back", TURNED), ()),
            (("lost", FRAME), (1, (23, 35, 9))), (("lost", TURNED), (1, (7, 7))), (("lost", TURNED), (1, (7,))),
            (("not taken", FRAME, ("start", "accept")), ()), (("taken", FRAME, ("start", "accept")), (1, (7, 7))),
            (("taken", FRAME, ("more", "accept")), (1, (7, 7))), (("dead", FRAME, 1), ()),
                (("come to", FRAME, 1), (1, (8,))),
            (("dead", FRAME, 2), ()), (("come to", FRAME, 2), (1, (7, 7))), (("dead", FRAME, True), ()))
        accepted(self, False, (("taken", FRAME, ("start", "refuse")), (1, ())), (("not taken", FRAME, ("accept",)), ()),
            (("not taken", FRAME, ("a",) * 9 + ("accept",)), ()), (("not taken", FRAME, ["a", "accept"]), ()),
            (("not taken", FRAME, ("a", "refuse")), ()), (("not taken", FRAME, (1, "accept")), ()))
        accepted(self, True, (("not taken", FRAME, ("a",) * 8 + ("accept",)), ()))

    def test_writings(self):
        writing = show_program(SMALL)
        accepted(self, True, (("read", "  " + writing + "\n", SMALL), ()), (("not read", "", 0), ()),
            (("not read", writing + " more", len(writing) + 1), ()))
        accepted(self, False, (("read", writing, controlled()), ()), (("not read", writing, None), ()),
            (("not read", writing, 0), ()), (("not read", "", False), ()), (("not read", "", None), ()),
            (("not read", "header base kind", 15), ()), (("read", "", SMALL), ()), (("read", None, SMALL), ()),
            (("not read", 0, 0), ()), (("read", writing, None), ()), (("not read", "", "0"), ()))

    def test_packets_worked(self):
        left = ((0, 0, 2, 0),)
        right = [SMALL, FILLED, NONE, PACKETS, OUTCOMES, left]
        for outcome in [(4, (1, 70, 0)), (256, ()), (4, (256,)), (4, (0,) * 225), (True, ()), "back", [4, ()],
            (4, [1]), None,
            (4,), (4, (), ())]:
            value = (outcome,) + OUTCOMES[1:]
            is_one = outcome == (4, (1, 70, 0))
            accepted(self, False, (("worked", *right[:4], value, left), ()))
            accepted(self, is_one, (("not worked", *right[:4], value, left), ()))
        accepted(self, True, (("not worked", *right[:4], ((4, (0,) * 224),) + OUTCOMES[1:], left), ()))
        for at, value in [(4, OUTCOMES[:3]), (4, OUTCOMES + ("gone",)), (3, PACKETS * 26), (3, PACKETS[:3]), (5, ()),
            (5, ((0, 0, 2),)), (2, ((0, 0, 0, 65536),)), (1, ()), (0, SMALL[:7])]:
            parts = right[:at] + [value] + right[at + 1:]
            accepted(self, False, (("worked", *parts), ()), (("not worked", *parts), ()))
        accepted(self, True, (("not worked", *right[:4], ((4, ()),) + OUTCOMES[1:], left), ()))
        for packet in (None, (7, [1]), (256, ()), 7, (7,), ((7, (0,)),), "gone"):
            for kind in ("worked", "not worked"):
                accepted(self, False, ((kind, SMALL, FILLED, NONE, PACKETS[:3] + (packet,), OUTCOMES, left), ()),
                    ((kind, SMALL, FILLED, NONE, (packet,), ("refused",), NONE), ()))
        accepted(self, True, (("worked", SMALL, FILLED, NONE, PACKETS[2:] * 50, OUTCOMES[2:] * 50, NONE), ()))
        accepted(self, False, (("worked", SMALL, FILLED, NONE, PACKETS[2:] * 51, OUTCOMES[2:] * 51, NONE), ()))


class PiecesTest(unittest.TestCase):
    def test_pieces_one_by_one(self):
        """Whether entries are settled on a piece, and what they come to, by all its words."""
        for seed in range(150):
            maker = Maker(seed)
            keys = maker.keys(5)
            entries = maker.entries(keys, 4)
            words = list(all_words(keys))
            bits = sum(width for _, width in keys)
            told = [told_by(keys, entries, one) for one in words]
            for depth in range(bits + 1):
                row = tuple((depth, head) for head in range(2 ** depth))
                step = 2 ** (bits - depth)
                settled = all(self.is_settled(keys, entries, words[at * step:(at + 1) * step]) for at
                    in range(2 ** depth))
                accepted(self, settled, (("tell alike", keys, entries, keys, entries), row))
                for index in range(len(entries)):
                    parts = [words[at * step:(at + 1) * step] for at in range(2 ** depth)]
                    idle = all(self.is_idle_on(keys, entries, index, part) for part in parts)
                    accepted(self, idle, (("idle", keys, entries, index), row))
            for index in range(len(entries)):
                for one in words:
                    accepted(self, hit_by(keys, entries, one) == index, (("looked up", keys, entries, index), one))
            others = maker.entries(keys, 4)
            unlike = [at for at, one in enumerate(words) if told_by(keys, others, one) != told[at]]
            for at in range(len(words)):
                row = tuple((bits, head) for head in range(at))
                accepted(self, unlike[:1] == [at], (("part first", keys, entries, keys, others, words[at]), row))
            row = tuple((bits, head) for head in range(2 ** bits))
            accepted(self, not unlike, (("tell alike", keys, entries, keys, others), row))

    def is_settled(self, keys, entries, words):
        for entry in entries:
            hits = [self.hits(keys, entry, one) for one in words]
            if any(hits):
                return all(hits)
        return True

    def is_idle_on(self, keys, entries, index, words):
        ahead = [all(self.hits(keys, entry, one) for one in words) for entry in entries[:index]]
        return any(ahead) or not any(self.hits(keys, entries[index], one) for one in words)

    def hits(self, keys, entry, words):
        return all(key_hit(kind, width, part, word) for (kind, width), part, word in zip(keys, entry[0], words))

    def test_pieces_on_which_one_side_alone_is_settled(self):
        half, whole = ((((4, 1), (0, 0)), "a", ()),), ((ALL, "a", ()),)
        both = half + ((((0, 1), (0, 0)), "a", ()),)
        for one, other in [(whole, both), (both, whole)]:
            accepted(self, False, (("tell alike", KEYS, one, KEYS, other), ((0, 0),)))
            accepted(self, True, (("tell alike", KEYS, one, KEYS, other), ((1, 0), (1, 1))))
        for one, other in [(whole, half), (half, whole)]:
            accepted(self, False, (("tell alike", KEYS, one, KEYS, other), ((0, 0),)))
            accepted(self, False, (("tell alike", KEYS, one, KEYS, other), ((1, 0), (1, 1))))
            accepted(self, True, (("part first", KEYS, one, KEYS, other, (0, 0)), ()))

    def test_rows(self):
        claim = ("tell alike", KEYS, (), (("range", 3), ("exact", 2)), ())
        accepted(self, True, (claim, ((0, 0),)), (claim, ((1, 0), (1, 1))),
            (claim, ((5, 0), (5, 1), (4, 1), (3, 1), (2, 1),
            (1, 1))), (claim, tuple((5, at) for at in range(32))))
        for row in [(), ((1, 0),), ((1, 1),), ((1, 1), (1, 0)), ((1, 0), (1, 0)), ((1, 0), (1, 1), (1, 1)),
            ((1, 0), (2, 3)),
            ((1, 0), (2, 2)), ((2, 0), (1, 1)), ((1, 0), (0, 0)), ((0, 0), (0, 0)), ((0, 1),), ((0, -1),), ((-1, 0),),
            ((6, 0),), ((1, 0), (1, 2)), ((1, False), (1, 1)), ((True, 0), (1, 1)), ([1, 0], (1, 1)), [(1, 0), (1, 1)],
            ((1, 0, 0), (1, 1)), ((1,), (1, 1)), ((None, 0),), ((0, None),), (("0", 0),), ((1, 0), (1, 1), None),
            ((10 ** 399, 0),), ((0, 10 ** 399),), (((0,), 0),)]:
            accepted(self, False, (claim, row))

    def test_400_and_401_pieces(self):
        wide = (("exact", 32),)
        claim = ("tell alike", wide, (), wide, ())
        nine = tuple((9, at) for at in range(112))
        for row, told in [(nine[:112] + tuple((8, at) for at in range(56, 256)), True), (tuple((10, at) for at in range(
            200)) + tuple((9, at) for at in range(100, 300)), False)]:
            self.assertLessEqual(len(row), 400)
            accepted(self, told, (claim, row))
        many = tuple((9, at) for at in range(288)) + tuple((8, at) for at in range(144, 256))
        self.assertEqual(len(many), 400)
        accepted(self, True, (claim, many))
        more = ((10, 0), (10, 1)) + many[1:]
        self.assertEqual(len(more), 401)
        accepted(self, False, (claim, more))

    def test_parts_out_of_their_bounds(self):
        row = ((0, 0),)
        for claim in [
            ("tell alike", KEYS, (), KEYS[::-1], ()), ("tell alike", KEYS, (), KEYS[:1], ()),
                ("tell alike", KEYS, (), (), ()),
            ("tell alike", (("exact", 32), ("mask", 17)), (), (("exact", 32), ("mask", 17)), ()),
            ("tell alike", KEYS, [], KEYS, ()), ("tell alike", KEYS, (), KEYS, []),
                ("tell alike", KEYS, (), KEYS, None),
            ("tell alike", KEYS, ((ALL, "A", ()),) * 2, KEYS, ((ALL, "A", ()),)),
                ("tell alike", KEYS, ((ALL, "a", ()),) * 33,
                KEYS, ((ALL, "a", ()),)),
        ]:
            accepted(self, False, (claim, row))
        one = ((ALL, "a", ()),)
        accepted(self, True, (("tell alike", KEYS, one * 32, KEYS, one), row), (("idle", KEYS, one * 2, 1), row))
        accepted(self, False, (("tell alike", KEYS, one, KEYS, ((ALL, "b", ()),)), row),
            (("idle", KEYS, one * 2, 0), row),
            (("tell alike", KEYS, one, KEYS, ((ALL, "a", (1,)),)), row), (("idle", KEYS, one * 2, True), row),
            (("idle", KEYS, one * 2, 2), row), (("idle", KEYS, one * 2, -1), row), (("idle", KEYS, (), 0), row),
            (("looked up", KEYS, one * 2, False), (0, 0)), (("looked up", KEYS, one * 2, 0), (8, 0)),
            (("looked up", KEYS, one * 2, 0), (0, False)), (("looked up", KEYS, one * 2, 0), [0, 0]),
            (("looked up", KEYS, one * 2, 0), (0,)), (("looked up", KEYS, one * 2, 1), (0, 0)))
        parted = ("part first", KEYS, THREE, KEYS, THREE[:1])
        for words in [(0, 3), (0, 1), (2, 2), (0, 4), (8, 0), [0, 2], (False, 2), (0,), (0, 2, 0), None]:
            accepted(self, False, (parted + (words,), ((4, 0),)), (parted + (words,), ()),
                (parted + (words,), ((3, 0),)))

    def test_prefixes_and_marks(self):
        right = ((3, 4), (4, 2), (8, 2), (12, 4))
        for many, told in [(64, True), (4, True), (3, False), (0, False), (-1, False), (65, False), (True, False),
            (None, False), ("4", False)]:
            accepted(self, told, (("held by", 4, 3, 12, many), right))
        for paper in [(), right[1:], right[:3], right[::-1], ((3, 4), (5, 4)), right + ((13, 4),),
            ((3, 4), (4, 1), (12, 4)),
            ((3, 3), (4, 2), (8, 2), (12, 4)), ((2, 3), (4, 2), (8, 2), (12, 4)), right[:1] + right, (3, 4), None,
            ((3, 4), (4, 2), (8, 2), (12, True)), ((3, 5), (4, 2), (8, 2), (12, 4)), [*right], ([3, 4],) + right[1:],
            ((3, 4, 4),) + right[1:], ((3, 4), (4, 2), (8, 2), (12, 3)), ((3, 4), (4, 2), (8, 2), (12, 2))]:
            accepted(self, False, (("held by", 4, 3, 12, 64), paper))
        singles = tuple((word, 4) for word in range(3, 13))
        accepted(self, True, (("held by", 4, 3, 12, 10), singles), (("held by", 32, 5, 5, 1), ((5, 32),)),
            (("held by", 32, 0, 4294967295, 1), ((0, 0),)), (("held by", 1, 0, 1, 1), ((0, 0),)),
            (("not held by", 1, 1, 1, 0), (1,)))
        accepted(self, False, (("held by", 4, 3, 12, 9), singles),
            (("held by", 6, 0, 63, 63), tuple((word, 6) for word in
            range(64))))
        accepted(self, True, (("held by", 6, 0, 63, 64), tuple((word, 6) for word in range(64))))
        for width, low, high in [(0, 0, 0), (33, 0, 0), (True, 0, 0), (4, 12, 3), (4, -1, 3), (4, 3, 16),
            (4, False, 3), (4, 3,
            None), ("4", 3, 12), (None, 3, 12)]:
            accepted(self, False, (("held by", width, low, high, 64), right),
                (("not held by", width, low, high, 0), (3,)))
        for marks in [(3, 4, 8), (3, 4, 8, 13), (3, 4, 5, 8, 12), (4, 8, 12), (), (3, 8, 4, 12), [3, 4, 8, 12],
            (3, 4, 8, 12,
            12), (2, 3, 4, 8), None, (True, 4, 8, 12)]:
            accepted(self, False, (("not held by", 4, 3, 12, 3), marks))
            if isinstance(marks, tuple) and are_marks(4, 3, 12, marks):
                accepted(self, marks != (), (("not held by", 4, 3, 12, len(marks) - 1), marks))
                accepted(self, False, (("not held by", 4, 3, 12, len(marks)), marks))
        for many in (True, None, -1, 65):
            accepted(self, False, (("not held by", 4, 3, 12, many), (3, 4, 8, 12)))
        wide = prefixes_of(32, 1, 4294967294)
        accepted(self, True, (("held by", 32, 1, 4294967294, 62), wide),
            (("not held by", 32, 1, 4294967294, 61), tuple(word
            for word, _ in wide)))
        accepted(self, False, (("held by", 32, 1, 4294967294, 61), wide),
            (("not held by", 32, 1, 4294967294, 62), tuple(word
            for word, _ in wide)))


class LaidTest(unittest.TestCase):
    def test_units_done(self):
        other = CLAIMS_BY["done otherwise"]
        accepted(self, False, (("done alike", SMALL, other[0][2]), ("units",)),
            (("done alike", SMALL, MADE), ["units"]),
            (("done alike", SMALL, MADE), ("unit",)), (("done alike", SMALL, MADE), "units"),
            (("done alike", SMALL, (MADE[0] + (1,), MADE[1])), ("units",)),
            (("done otherwise", SMALL, MADE), other[1][0]))
        filling = (7, 0, 0, 0, 1, 0, 9, 0, 0)
        for paper, told in [((FILLED, NONE, filling), True), ((FILLED, NONE, filling[:8]), False),
            ((FILLED, ((9, 9, 9, 9),), filling), True), ((FILLED, ((9, 9, 9),), filling), False),
                (((), NONE, filling), False),
            ((FILLED, NONE, (7, 0, 0, 0, 1, 0, 9, 1, 0)), False), ((FILLED, NONE, filling, ()), False), ((FILLED, NONE),
            False), ([FILLED, NONE, filling], False), ((FILLED, NONE, (7, 0, 0, 0, 0, 0, 9, 0, 0)), False)]:
            accepted(self, told, (("done otherwise", SMALL, other[0][2]), paper))

    def test_wishes_of_made_up_programs(self):
        """Each wish that is broken shows it, and nothing else does."""
        met = {}
        for maker, made, told in cases(250, 8):
            layout = laid_about(maker, told)
            wrongs = told.wrongs(*layout)
            accepted(self, not wrongs, (("right", BASE, made, layout), ()))
            claim = ("not right", BASE, made, layout)
            for wish in wrongs[:20] + wrongs[-20:]:
                # Where two sources stand in one stage it is shown by another wish.
                known = wish[0] != "source" or len(told.staged(wish[2], wish[3], wish[1], layout[1])) == 1
                accepted(self, known, (claim, wish))
                met[wish[0]] = True
                for other in bent(wish):
                    if accepts(claim, other):
                        self.assertTrue(other in wrongs or other[0] == "gap", (other, wrongs))
            for wish in self.some_wishes(maker, made, told):
                if accepts(claim, wish):
                    self.assertTrue(wish in wrongs or wish[0] == "gap" and "gap"
                        in [one[0] for one in wrongs] or wish[0] ==
                        "gap", wish)
        self.assertEqual(sorted(met), ["gap", "late", "once", "order", "source"])

    def some_wishes(self, maker, made, told):
        end = len(made[1])
        for _ in range(20):
            one, other, box = maker.upto(end), maker.upto(end), maker.upto(len(made[0]))
            indexes = told.writers(box) + ([one] if one < end else [])
            way = maker.pick(told.ways(indexes))
            yield ("late", one, box)
            yield ("once", way, one, other)
            yield ("source", way, one, box, maker.pick([None, other]), maker.pick([None, one]))
            yield ("order", maker.pick(told.ways(told.touches(0))), one, other)
            yield ("gap", one, other)

    def test_gaps(self):
        touches = [("touch", (), 0, ONE, "add", ONE, 6), ("touch", (), 1, ONE, "add", ONE, 7),
            ("touch", (), 0, ONE, "add", ONE,
            8)]
        made = made_of(touches, (8, 8, 8))
        for gap, stages, paper, told in [(2, (1, 0, 3), ("gap", 0, 2), True), (3, (1, 0, 3), ("gap", 0, 2), False),
            (2, (1, 0,
            3), ("gap", 2, 0), False), (1, (3, 0, 1), ("gap", 2, 0), True), (1, (1, 5, 3), ("gap", 0, 1), False),
                (1, (1, 5, 3),
            ("gap", 1, 2), False), (1, (1, 5, 3), ("gap", 0, 3), False), (1, (1, 5, 3), ("gap", False, 2), False)]:
            accepted(self, told, (("not right", BASE, made, (gap, stages)), paper))

    def test_touches_and_sources_in_ways_that_they_are_not_active_in(self):
        touches = [("touch", ((6, 1),), 0, ONE, "add", ONE, 7), ("touch", (), 0, ONE, "add", ONE, 8),
            ("touch", ((6, 1),),
            0, ONE, "add", ONE, 9)]
        claim = ("not right", BASE, made_of(asks(1) + touches, (1, 8, 8, 8)), (9, (0, 3, 3, 3)))
        for way, one, other, told in [(((6, 1),), 1, 2, True), (((6, 0),), 1, 2, False), (((6, 1),), 2, 3, True), (((6,
            0),), 2, 3, False), (((6, 1),), 2, 1, False), ((), 1, 2, False), (((6, 1),), 1, 3, True)]:
            accepted(self, told, (claim, ("order", way, one, other)))
        sets = [("set", (), 4, ("box", 1)), ("set", (), 1, ONE), ("set", (), 5, ("box", 1))]
        claim = ("not right", BASE, made_of(sets), (1, (1, 0, 0)))
        for paper, told in [(("source", (), 0, 1, None, 1), True), (("source", (), 2, 1, 1, None), True),
            (("source", (), 0, 1, None, True), False), (("source", (), 2, 1, True, None), False),
                (("source", (), False, 1,
            None, 1), False), (("source", (), 0, True, None, 1), False), (("source", (), 1, 1, None, 1), False),
                (("source",
            (), 0, 1, None, (1,)), False), (("source", (), 2, 1, [1], None), False),
                (("source", (), 0, 1, None, 3), False)]:
            accepted(self, told, (claim, paper))

    def test_layouts_of_too_many_units_or_boxes(self):
        for program in (wide_program(15, 4, heads=1), wide_program(0, 0, 160)):
            made = made_in(program)
            stages = tuple(range(63)) + (63,) * (len(made[1]) - 63)
            accepted(self, False, (("sent alike", program, (1, stages)), ("right",)),
                (("sent otherwise", program, (1, stages)),
                ((), (), ((0, (1, ())),))), (("right", program, made, (1, stages)), ()), (("done alike", program, made),
                ("units",)))
        small = wide_program(15, 3, heads=1)
        made = made_in(small)
        layout = early(small, made)
        accepted(self, True, (("sent alike", small, layout), ("right",)), (("done alike", small, made), ("units",)))

    def test_ways_that_are_none(self):
        claim = ("not right", SMALL, MADE, HASTY)
        for way in [((11, 1),), ((13, 1), (11, 1)), ((11, 1), (13, 1), (14, 1)), ((11, 1), (14, 1)),
            ((11, True), (13, 1)),
            ((11, 1), (13, 2)), ((11, 0), (13, 1)), ((11, 1), (13, 0)), [(11, 1), (13, 1)], ([11, 1], (13, 1)), (),
                None,
            ((11, 1), (11, 1), (13, 1)), (11, 1, 13, 1), ((9, 1), (11, 1), (13, 1))]:
            accepted(self, False, (claim, ("source", way, 7, 3, 5, None)))
        for paper in [("source", AGAINST[1], 6, 3, 5, None), ("source", AGAINST[1], 7, 4, 5, None),
            ("source", AGAINST[1], 7, 3,
            4, None), ("source", AGAINST[1], 7, 3, None, None), ("source", AGAINST[1], 7, 3, 5, 5),
                ("source", AGAINST[1], 7, 3,
            None, 5), ("source", AGAINST[1], 11, 3, 5, None), ("source", AGAINST[1], 12, 3, 5, None),
                ("source", AGAINST[1], 7,
            16, 5, None), ("source", AGAINST[1], 7, 3, 5, False), ("late", 7, 11), ("late", 4, 13)]:
            accepted(self, False, (claim, paper))

    def test_what_is_sent(self):
        claim = ("sent otherwise", SMALL, HASTY)
        for paper, told in [
            ((FILLED, NONE, ARRIVALS), True), ((FILLED, NONE, ((0, PACKETS[0]), (1000, PACKETS[1]))), True),
            ((FILLED, NONE, ARRIVALS[:1]), False), ((FILLED, NONE, ()), False), ((FILLED, NONE, ARRIVALS[::-1]), False),
            ((FILLED, NONE, ((0, PACKETS[0]), (1001, PACKETS[1]))), False), ((FILLED, NONE, list(ARRIVALS)), False),
            ((FILLED, NONE, ((0, PACKETS[0]), (0, PACKETS[1]))), False), ((FILLED, NONE, ((0, PACKETS[0]), (True,
                PACKETS[1]))), False), ((FILLED, NONE, tuple((at, PACKETS[0]) for at in range(20))), True),
            ((FILLED, NONE, tuple((at, PACKETS[0]) for at in range(21))), False), (((), NONE, ARRIVALS), False),
            ((FILLED, (), ARRIVALS), False), ((FILLED, ((5,) * 4,), ARRIVALS[:1]), True), ((FILLED, NONE), False),
            ((FILLED, NONE, ((0, (7, (0,))), (1, PACKETS[0]), (2, PACKETS[1]))), True),
                ((FILLED, NONE, (PACKETS[0],)), False),
        ]:
            accepted(self, told, (claim, paper))
            accepted(self, False, (("sent otherwise", SMALL, LAID), paper))
        # Beats have to be a gap from one another.
        accepted(self, True, (("sent otherwise", SMALL, (3, HASTY[1])),
            (FILLED, NONE, ((0, PACKETS[0]), (3, PACKETS[1])))))
        accepted(self, False, (("sent otherwise", SMALL, (3, HASTY[1])),
            (FILLED, NONE, ((0, PACKETS[0]), (2, PACKETS[1])))))
        accepted(self, False, (("sent alike", SMALL, HASTY), ("right",)), (("sent alike", SMALL, LAID), ["right"]),
            (("sent alike", SMALL, (1, LAID[1][1:])), ("right",)), (("sent alike", SMALL[:7], LAID), ("right",)))

    def test_flows(self):
        claim = [SMALL, FILLED, MADE, LAID, NONE, COMING, *THROUGH]
        accepted(self, True, (("flows", *claim), ()), (("flows", *claim[:3], (9, LAID[1]), *claim[4:]), ()))
        filled, left = THROUGH
        for at, value in [(6, filled[:1]), (6, filled[::-1]), (6, filled + filled), (6, (list(filled[0]), filled[1])),
            (7, NONE),
            (7, ((0, 0, 2, False),)), (5, COMING[:1]), (5, list(COMING)), (4, ((0, 0, 1, 0),)), (3, HASTY),
                (2, (MADE[0],
            MADE[1][:9])), (1, ()), (6, ((7, 4, 0, 0, True) + filled[0][5:], filled[1]))]:
            accepted(self, False, (("flows", *claim[:at], value, *claim[at + 1:]), ()))
        accepted(self, False, (("clashes", *claim[:6], 0, ("register", 0)), ()))
        clash = [TWO_TOUCHES, FILLED, TWO_MADE, (1, (0, 0)), NONE, COMING, 0, ("register", 0)]
        accepted(self, True, (("clashes", *clash), ()))
        for at, value in [(6, 1), (6, False), (6, None), (7, ("register", 1)), (7, ("register", False)),
            (7, ["register", 0]),
            (7, ("register",)), (7, ("box", 0, 9)), (3, (1, (0, 1))), (5, ()), (5, COMING[1:])]:
            accepted(self, False, (("clashes", *clash[:at], value, *clash[at + 1:]), ()))
        accepted(self, True, (("clashes", *clash[:5], COMING[1:], 1, ("register", 0)), ()),
            (("clashes", *clash[:3], (1, (1, 0)), NONE, COMING, 1, ("register", 0)), ()))
        accepted(self, False, (("flows", *clash[:6], (), NONE), ()))

    def test_more_than_16384_ways(self):
        for many in (14, 15):
            guards = [tuple((6 + at, 1) for at in range(8)), tuple((6 + at, 1) for at in range(8, many))]
            made = made_of(asks(15) + [("set", guard, 1, ONE) for guard in guards], (1,) * 15)
            layout = (1, (0,) * 15 + (1, 2))
            accepted(self, many == 14, (("right", BASE, made, layout), ()), (("before", BASE, made, 15, 2), layout),
                (("laid", BASE, made, 1, (9, 15, 0, 0, 99)), layout))
            way = tuple((6 + at, 1) for at in range(many))
            accepted(self, True, (("not right", BASE, made, (1, (0,) * 15 + (1, 1))), ("once", way, 15, 16)),
                (("not right", BASE, made, (1, (0,) * 15 + (2, 1))), ("source", way, 17, 1, 16, 15)),
                (("not before", BASE, made, 16, 1), ((8, None), (16, ("atom", 14)))))


class ChainsTest(unittest.TestCase):
    def test_chains_that_are_none(self):
        claim = ("not before", SMALL, MADE, 7, 0)
        whys = {unit: why for unit, why in CHAIN}
        for chain, told in [
            (CHAIN, True), (CHAIN[1:], False), (((4, None),) + CHAIN[2:], True), (((5, None), CHAIN[3]), True),
            (((7, None),), True), (CHAIN[:3], False), (CHAIN[:2] + CHAIN[3:], False), (CHAIN + (CHAIN[3],), False),
            (((3, ("atom", 11)),) + CHAIN[1:], False), (((3, None), (4, None)) + CHAIN[2:], False), ((), False),
            (list(CHAIN), False), (((3, None), (5, ("atom", 11)), CHAIN[3]), True),
                (((5, None), (3, None), CHAIN[3]), False),
            (((3, None), (7, ("atom", 11))), True), (((6, None), (7, ("atom", 13))), True),
                (((6, None), (7, ("atom", 11))),
            False), (((3, None), (7, ("atom", 13))), False), (((3, None), (7, ["atom", 11])), False),
                (((3, None), (7, ("atom",
            11, 11))), False), (((3, None), (7, ("atom", True))), False), (((3, None), [7, ("atom", 11)]), False),
                (((-1, None),
            (7, ("atom", 11))), False), (((True, None), (7, ("atom", 11))), False),
                (((5, None), (7, ("touch",))), False),
            (((3, None), (7, ("atom", 99))), False), (((3, None), (7, ("source",))), False),
                (((3, None), (7, None)), False),
            (((3, None), (11, ("atom", 11))), False), (((7, None, None),), False), ((7,), False), (7, False),
        ]:
            accepted(self, told, (claim, chain))
        self.assertEqual(whys[5][1], 12)
        # Unit 7 does not read what unit 4 writes; no more stands behind touch.
        accepted(self, False, (claim, ((4, None), (7, ("source", 12, ((11, 1), (13, 1)))))),
            (claim, ((4, None), (7, ("source",
            12, ((11, 1),))))))
        accepted(self, False, (("not before", TWICE, TWICE_MADE, 2, 1), ((0, None), (2, ("touch", 1)))),
            (("not before", TWICE, TWICE_MADE, 2, 1), ((0, None), (2, ("touch", ())))))
        accepted(self, True, (("not before", TWICE, TWICE_MADE, 2, 1), ((0, None), (2, ("touch",)))))
        for way in [(), ((11, 0), (13, 1)), ((11, 1),), ((11, 1), (13, 0)), ((11, 1), (13, 1), (14, 0)), None,
            [(11, 1), (13,
            1)], ((13, 1), (11, 1))]:
            accepted(self, False, (claim, CHAIN[:3] + ((7, ("source", 3, way)),)))
        for box in (4, 12, 99, True, None):
            accepted(self, False, (claim, CHAIN[:3] + ((7, ("source", box, ((11, 1), (13, 1)))),)))

    def test_before(self):
        for unit, stage, told in [(7, 4, True), (7, 3, False), (0, 1, True), (0, 0, False), (7, 63, True),
            (7, 64, False),
            (11, 4, False), (True, 4, False), (7, None, False)]:
            accepted(self, told, (("before", SMALL, MADE, unit, stage), LAID))
        accepted(self, False, (("before", SMALL, MADE, 7, 4), HASTY), (("before", SMALL, MADE, 7, 4), (1, LAID[1][1:])),
            (("before", SMALL, MADE, 7, 4), None), (("before", SMALL, MADE, 7, 4), [1, LAID[1]]))
        for stage, told in [(0, True), (3, True), (4, False), (-1, False), (True, False), (64, False)]:
            accepted(self, told, (("not before", SMALL, MADE, 7, stage), CHAIN))
        accepted(self, False, (("not before", SMALL, MADE, 5, 2), CHAIN))
        accepted(self, True, (("not before", SMALL, MADE, 5, 2), CHAIN[:3]))

    def test_laid(self):
        for gap, chip, layout, told in [
            (1, CHIP, LAID, True), (2, CHIP, LAID, False), (2, CHIP, (2, LAID[1]), True), (1, CHIP, HASTY, False),
            (1, (4, 5, 1, 4, 69), LAID, False), (0, CHIP, (0, LAID[1]), False), (True, CHIP, LAID, False),
                (17, CHIP, LAID,
            False), (1, (0, 5, 1, 4, 70), LAID, False), (1, list(CHIP), LAID, False), (1, CHIP, None, False),
        ]:
            accepted(self, told, (("laid", SMALL, MADE, gap, chip), layout))

    def test_not_laid(self):
        for gap, chip, paper, told in [
            (1, (3, 9, 9, 99, 999), ("chain", CHAIN), True), (1, (4, 9, 9, 99, 999), ("chain", CHAIN), False),
            (1, (3, 9, 9, 99, 999), ("chain", CHAIN[:3]), False), (1, (3, 9, 9, 99, 999), ("chain", CHAIN, 1), False),
            (1, (3, 9, 9, 99, 999), ["chain", CHAIN], False), (1, (3, 9, 9, 99, 999), ("apart", CHAIN), False),
            (1, (5, 2, 9, 99, 999), ("units",), True), (1, (11, 1, 9, 99, 999), ("units",), False),
                (1, (10, 1, 9, 99, 999),
            ("units",), True), (1, (5, 9, 0, 99, 999), ("looks",), True), (1, (5, 9, 1, 99, 999), ("looks",), False),
            (1, (5, 9, 1, 0, 999), ("room",), True), (1, (4, 9, 1, 1, 999), ("room",), False),
                (1, (3, 9, 1, 1, 999), ("room",),
            True), (1, (5, 2, 9, 99, 999), "units", False), (1, (5, 2, 9, 99, 999), ("bits",), False),
                (1, (5, 2, 9, 99, 0),
            (), False), (17, (5, 2, 9, 99, 0), ("units",), False), (1, (65, 2, 9, 99, 0), ("units",), False),
        ]:
            accepted(self, told, (("not laid", SMALL, MADE, gap, chip), paper))
        for gap, chain, told in [(1, TWICE_CHAIN, True), (2, TWICE_CHAIN, True), (3, TWICE_CHAIN, False),
            (1, TWICE_CHAIN[:2],
            False), (1, ((0, None), (2, ("touch",))), True), (2, ((0, None), (2, ("touch",))), False),
                (1, ((0, None),), False),
            (1, ((1, None), TWICE_CHAIN[2]), False)]:
            accepted(self, told, (("not laid", TWICE, TWICE_MADE, gap, WIDE_CHIP), ("apart", chain)))

    def test_leanings_of_made_up_programs(self):
        """A pair of units is a chain by some why exactly if the one leans on the other."""
        for maker, made, told in cases(120, 8):
            for index in range(len(made[1])):
                leaned = leans_on(BASE, made, index)
                for other in range(len(made[1])):
                    found = any(accepts(("not before", BASE, made, index, 1), ((other, None), (index, why))) for why in
                        self.whys(told, index, other))
                    self.assertIs(found, other in leaned)

    def whys(self, told, index, other):
        yield ("touch",)
        for box in range(len(told.widths)):
            yield ("atom", box)
            if box in told.reads(index):
                for way in told.ways(told.writers(box) + [index]):
                    yield ("source", box, way)

    def test_no_claim_and_its_opposite(self):
        for maker, made, told in cases(120, 9):
            layout = laid_about(maker, told)
            right = wrong_in(BASE, made, layout) is None
            accepted(self, right, (("right", BASE, made, layout), ()))
            stages = early(BASE, made)[1]
            for index, stage in enumerate(stages[:4]):
                below = [at for at in range(min(stage + 3, 63)) if accepts(("before", BASE, made, index, at), layout)]
                self.assertEqual(below, [at for at in range(min(stage + 3, 63)) if right and layout[1][index] < at])
        program = controlled(*[("set", ("local", "old"), ("add", ("local", "old"), 1))] * 12)
        made = units_of(program)
        chain = [(1, None)]
        for at in range(1, 12):
            chain += [(2 * at, ("source", 3, ())), (2 * at + 1, ("source", 9 + at, ()))]
        accepted(self, True, (("not before", program, made, 23, 22), tuple(chain)))
        accepted(self, False, (("not before", program, made, 23, 23), tuple(chain)))
        self.assertEqual(OWN[0], 8)


CLAIMS_BY = {claim[0]: (claim, papers) for claim, papers in CLAIMS}

if __name__ == "__main__":
    unittest.main()
