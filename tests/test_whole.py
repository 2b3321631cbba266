"""Points 1 to 3 over the whole program: plain work, units done plainly and the stages of right layouts are alike."""

import unittest

from switchstages.boxes import box_widths
from switchstages.certificates import certify_done, certify_flow, certify_layout, certify_sent, certify_worked
from switchstages.checker import accepts
from switchstages.errors import TooMany
from switchstages.flows import flow, stand
from switchstages.layouts import early, fitted, wrong_in
from switchstages.parsers import parse, send
from switchstages.programs import behind, first_cells, worked, worked_all
from switchstages.texts import read_contents, read_program, show_contents, show_program
from switchstages.units import done, units_of
from tests.makers import Maker


def filling_of(program, packet):
    """The filling and the rest of a packet; None if it is refused."""
    told = parse((program[0], program[2], program[3]), packet)
    if told is None:
        return None
    filling = [packet[0], 0, 0] + [0 for _ in program[1]]
    for (_, fields), words in zip(program[0], told[0]):
        filling += [0] * (1 + len(fields)) if words is None else [1, *words]
    return tuple(filling), told[1]


def outcome_of(program, boxes, rest):
    """What is sent of a packet that has these boxes in the end."""
    if boxes[2]:
        return "gone"
    at, fields = 3 + len(program[1]), []
    for _, parts in program[0]:
        fields.append(tuple(boxes[at + 1:at + 1 + len(parts)]) if boxes[at] else None)
        at += 1 + len(parts)
    return boxes[1], send((program[0], program[2], program[3]), tuple(fields), rest)


class WholeTest(unittest.TestCase):
    def programs(self, many, first=0):
        for seed in range(first, first + many):
            maker = Maker(seed)
            program = maker.program()
            contents = maker.contents(program, box_widths(program[0], program[1]))
            yield maker, program, contents, tuple(maker.packet() for _ in range(6))

    def test_what_is_shown_is_read_and_worked_alike(self):
        for maker, program, contents, packets in self.programs(80):
            again = read_program(show_program(program))
            self.assertEqual(again, program)
            self.assertEqual(read_contents(again, show_contents(program, contents)), contents)
            cells, told = maker.cells(program), []
            begun = cells
            for packet in packets:
                outcome, cells = worked(again, contents, cells, packet)
                told.append(outcome)
            self.assertEqual(worked_all(program, contents, begun, packets), (tuple(told), cells))

    def test_units_done_plainly_send_the_same(self):
        for maker, program, contents, packets in self.programs(80, 80):
            made, cells = units_of(program), maker.cells(program)
            for packet in packets:
                outcome, left = worked(program, contents, cells, packet)
                found = filling_of(program, packet)
                if found is None:
                    self.assertEqual((outcome, left), ("refused", cells))
                    continue
                boxes, by_units = done(program, contents, made, cells, found[0])
                self.assertEqual((boxes[:len(found[0])], by_units), behind(program, contents, cells, found[0]))
                self.assertEqual((outcome_of(program, boxes, found[1]), by_units), (outcome, left))
                cells = left

    def test_right_layouts_send_the_same(self):
        laid = 0
        for maker, program, contents, packets in self.programs(100, 200):
            made, cells = units_of(program), first_cells(program)
            try:
                layout = early(program, made)
            except TooMany:
                continue
            roomy = (64, 200, 16, 256, 4000)
            layouts = [layout, (16, layout[1]), fitted(program, made, layout[0], roomy, 3)]
            spread = tuple(2 * stage for stage in layout[1])
            layouts += [(min(16, 2 * layout[0]), spread)] if max(spread + (0,)) < 64 else []
            for gap, stages in [one for one in layouts if one is not None]:
                if wrong_in(program, made, (gap, stages)) is not None:
                    continue
                self.sent(maker, (program, contents, made, (gap, stages), cells), packets)
                laid += 1
        self.assertGreater(laid, 150)

    def sent(self, maker, begun, packets):
        program, contents, made, layout, cells = begun
        outcomes, left = worked_all(program, contents, cells, packets)
        beat, coming, rests, wanted, arrivals = 0, [], [], [], []
        for packet, outcome in zip(packets, outcomes):
            arrivals.append((beat, packet))
            found = filling_of(program, packet)
            if found is not None:
                coming.append((beat, found[0]))
                rests.append(found[1])
                wanted.append(outcome)
            beat += layout[0] + maker.pick([0, 0, 1, 9])
        kind, fillings, by_flow = flow(program, contents, made, layout, cells, tuple(coming))
        self.assertEqual([kind, by_flow], ["through", left])
        self.assertEqual([outcome_of(program, boxes, rest) for boxes, rest in zip(fillings, rests)], wanted)
        self.assertEqual(stand(program, contents, made, layout, cells, tuple(coming), 1100), ((), left))
        for claim, paper in [certify_sent(program, layout, contents, cells, tuple(arrivals)),
            certify_flow(program, contents, made, layout, cells, tuple(coming)), certify_layout(program, made, layout),
            certify_worked(program, contents, cells, packets)]:
            self.assertIn(claim[0], ("sent alike", "flows", "right", "worked"))
            self.assertIs(accepts(claim, paper), True)

    def test_layouts_by_which_something_else_is_sent_are_not_right(self):
        unlike = 0
        for maker, program, contents, packets in self.programs(100, 300):
            made, cells = units_of(program), first_cells(program)
            try:
                gap, stages = early(program, made)
            except TooMany:
                continue
            if not stages:
                continue
            at = maker.upto(len(stages) - 1)
            layout = (gap, stages[:at] + (maker.upto(max(stages)),) + stages[at + 1:])
            coming = []
            for packet in packets:
                found = filling_of(program, packet)
                if found is not None:
                    coming.append((gap * len(coming), found[0]))
            told, by_units = flow(program, contents, made, layout, cells, tuple(coming)), cells
            plainly = []
            for _, filling in coming:
                boxes, by_units = done(program, contents, made, by_units, filling)
                plainly.append(boxes)
            if told != ("through", tuple(plainly), by_units):
                self.assertIsNot(wrong_in(program, made, layout), None)
                unlike += 1
        self.assertGreater(unlike, 5)

    def test_equal_calls_equal_results(self):
        for _, program, contents, packets in self.programs(10, 500):
            made, cells = units_of(program), first_cells(program)
            filling = (0,) * len(box_widths(program[0], program[1]))
            for _ in range(2):
                self.assertEqual(units_of(program), made)
                self.assertEqual(certify_done(program, made, contents, cells, filling)[1], ("units",))
                told = certify_worked(program, contents, cells, packets)
                self.assertEqual(told, certify_worked(program, contents, cells, packets))


if __name__ == "__main__":
    unittest.main()
