"""What points 9 to 12 promise for all packets, on many frames and packets, against another reading by texts of bits."""

import unittest

from switchstages.parsers import comes_back, is_frame, parse, send, way_of

ACCEPT = ("accept",)
IN = ("local", "in")
HEADERS = (("a", (("x", 3), ("y", 5))), ("b", (("z", 8),)), ("c", (("u", 4), ("v", 8), ("w", 4))))
BYTES = (0, 1, 7, 16, 35, 128, 160, 255)
BEHIND = ((), (3,), (255, 1), (35, 128, 9))
PACKETS = [(came, (one, two) + more) for came in (0, 5, 255) for one in BYTES for two in BYTES for more in BEHIND]
PACKETS += [(came, (one,)) for came in (0, 5) for one in BYTES] + [(0, ())]


def field(header, name):
    return ("field", header, name)


PARSERS = [
    (("s", "a", ACCEPT),),
    (("s", "a", ("by", field("a", "x"), ((1, 7, "t"), (4, 4, "accept")), "refuse")), ("t", "b", ACCEPT)),
    (("s", "b", ("by", field("b", "z"), ((0, 1, "t"),), "u")), ("t", "a", ("go", "u")), ("u", "c", ACCEPT)),
    (("s", None, ("by", IN, ((5, 255, "t"),), "u")), ("t", "c", ("by", field("a", "y"), ((0, 31, "u"),), "refuse")),
     ("u", "a", ("by", field("a", "x"), ((0, 3, "v"),), "accept")), ("v", "b", ACCEPT)),
    (("s", "a", ("by", field("b", "z"), ((0, 0, "t"),), "accept")),
     ("t", "b", ("by", field("a", "y"), ((3, 3, "u"),), "v")),
     ("u", "c", ACCEPT), ("v", None, ("by", IN, (), "accept"))),
    (("s", "a", ("go", "t")), ("t", "b", ("go", "u")),
     ("u", "c", ("by", field("c", "v"), ((0, 128, "accept"),), "refuse"))),
]
ORDERS = [("a", "b", "c"), ("a", "c", "b"), ("b", "a", "c"), ("b", "c", "a"), ("c", "a", "b"), ("c", "b", "a")]
FRAMES = [(HEADERS, parser, order) for parser in PARSERS for order in ORDERS]


def bits_of(taken):
    return "".join(format(byte, "08b") for byte in taken)


def places_read(states):
    """Where, in the bits of a packet, each field stands of the headers that these states read, and where they end."""
    found, at = {}, 0
    for _, header, _ in states:
        if header is not None:
            for name, width in dict(HEADERS)[header]:
                found[header, name] = (at, at + width)
                at += width
    return found, at


def leads(onward, word):
    """The aim of a state by a word, by point 9, cases looked at from behind."""
    if onward[0] != "by":
        return onward[-1]
    aim = onward[3]
    for wanted, mask, other in reversed(onward[2]):
        aim = other if word & mask == wanted else aim
    return aim


def takes(frame, packet, way):
    """Whether a packet is one of those of an accepted way, by point 10: by its own bits alone."""
    states = {state[0]: state for state in frame[1]}
    bits = bits_of(packet[1])
    for at, name in enumerate(way[:-1]):
        found, end = places_read([states[before] for before in way[:at + 1]])
        if end > len(bits):
            return False
        onward = states[name][2]
        word = 0
        if onward[0] == "by" and onward[1] == IN:
            word = packet[0]
        elif onward[0] == "by" and onward[1][1:] in found:
            begin, behind = found[onward[1][1:]]
            word = int(bits[begin:behind], 2)
        if leads(onward, word) != way[at + 1]:
            return False
    return True


def all_ways(parser):
    """All rows of states along aims from the first state on that end with accept."""
    states = {state[0]: state for state in parser}
    open_ways, found = [(parser[0][0],)], []
    while open_ways:
        way = open_ways.pop()
        if way[-1] == "accept":
            found.append(way)
        elif way[-1] != "refuse":
            onward = states[way[-1]][2]
            aims = {onward[-1]} | ({case[2] for case in onward[2]} if onward[0] == "by" else set())
            open_ways += [way + (aim,) for aim in aims]
    return found


def read_order(frame, way):
    states = {state[0]: state for state in frame[1]}
    return [states[name][1] for name in way[:-1] if states[name][1] is not None]


def keeps_order(frame, way):
    read = read_order(frame, way)
    return [name for name in frame[2] if name in read] == read


class WaysTest(unittest.TestCase):
    def test_all_of_these_are_frames(self):
        for frame in FRAMES:
            self.assertIs(is_frame(frame), True)

    def test_the_packets_of_an_accepted_way(self):
        for frame in FRAMES[::6]:
            ways = all_ways(frame[1])
            for packet in PACKETS:
                told = way_of(frame, packet)
                accepted = [told] if told[-1] == "accept" else []
                self.assertEqual([way for way in ways if takes(frame, packet, way)], accepted)

    def test_what_is_parsed(self):
        for frame in FRAMES[::6]:
            states = {state[0]: state for state in frame[1]}
            for packet in PACKETS:
                way, told = way_of(frame, packet), parse(frame, packet)
                self.assertEqual(told is None, way[-1] == "refuse")
                self.assertLessEqual(len(way), len(frame[1]) + 1)
                if told is not None:
                    found, end = places_read([states[name] for name in way[:-1]])
                    bits = bits_of(packet[1])
                    words = {place: int(bits[begin:behind], 2) for place, (begin, behind) in found.items()}
                    fields = tuple(
                        tuple(words[header, name] for name, _ in parts) if header in read_order(frame, way) else None
                        for header, parts in HEADERS
                    )
                    self.assertEqual(told, (fields, packet[1][end // 8:]))

    def test_free_bits_lead_the_same_way(self):
        frame = (HEADERS, PARSERS[1], ORDERS[0])
        for free in range(32):
            for other in BYTES:
                self.assertEqual(way_of(frame, (other, (32 + free, other, free))), ("s", "t", "accept"))


class BackTest(unittest.TestCase):
    def test_what_comes_back(self):
        for frame in FRAMES:
            for packet in PACKETS:
                told = parse(frame, packet)
                back = told is not None and send(frame, *told) == packet[1]
                self.assertIs(comes_back(frame, packet), back)

    def test_what_is_sent_is_as_long_as_what_came(self):
        for frame in FRAMES:
            for packet in PACKETS:
                told = parse(frame, packet)
                if told is not None:
                    self.assertEqual(len(send(frame, *told)), len(packet[1]))

    def test_all_packets_of_a_way_read_in_order_come_back(self):
        for frame in FRAMES:
            for packet in PACKETS:
                way = way_of(frame, packet)
                if way[-1] == "accept" and keeps_order(frame, way):
                    self.assertIs(comes_back(frame, packet), True)

    def test_out_of_order_some_packet_is_spoilt_where_bits_are_free(self):
        for frame in FRAMES:
            accepted = {way_of(frame, packet) for packet in PACKETS if way_of(frame, packet)[-1] == "accept"}
            for way in accepted:
                back = [comes_back(frame, packet) for packet in PACKETS if way_of(frame, packet) == way]
                self.assertEqual(all(back), keeps_order(frame, way))

    def test_out_of_order_all_come_back_where_the_bits_are_always_alike(self):
        for word, other, back in ((255, 255, True), (0, 0, True), (35, 35, True), (35, 34, False)):
            headers = (("a", (("x", 8),)), ("b", (("z", 8),)))
            parser = (("s", "a", ("by", field("a", "x"), ((word, 255, "t"),), "refuse")),
                      ("t", "b", ("by", field("b", "z"), ((other, 255, "accept"),), "refuse")))
            frame = (headers, parser, ("b", "a"))
            accepted = [(0, (one, two)) for one in range(256) for two in range(256) if (one, two) == (word, other)]
            for packet in accepted:
                self.assertEqual(way_of(frame, packet), ("s", "t", "accept"))
                self.assertIs(comes_back(frame, packet), back)

    def test_a_header_that_is_moved_by_its_own_size_is_looked_at_bit_by_bit(self):
        headers = (("a", (("x", 16),)), ("b", (("z", 8),)))
        parser = (("s", "a", ("by", field("a", "x"), ((0, 0xFEFE, "t"),), "refuse")),
                  ("t", "b", ("by", field("b", "z"), ((0, 0xFE, "accept"),), "refuse")))
        frame = (headers, parser, ("b", "a"))
        for one in (0, 1):
            for two in (0, 1):
                for three in (0, 1):
                    self.assertIs(comes_back(frame, (0, (one, two, three))), one == two == three)


class ChangedFieldsTest(unittest.TestCase):
    def test_changed_fields_that_are_not_asked_are_parsed_again(self):
        tried = 0
        for frame in FRAMES:
            if not all(keeps_order(frame, way) for way in all_ways(frame[1])):
                continue
            for packet in PACKETS[::3]:
                tried += self.check_changes(frame, packet)
        self.assertGreater(tried, 1000)

    def check_changes(self, frame, packet):
        told, tried = parse(frame, packet), 0
        if told is None:
            return 0
        fields, rest = told
        asked = [state[2][1][1:] for state in frame[1] if state[0] in way_of(frame, packet) and state[2][0] == "by"]
        for salt in (0, 1, 77, 255):
            changed = tuple(
                words if words is None else tuple(
                    word if (header, name) in asked else (word * 3 + salt) % 2 ** width
                    for word, (name, width) in zip(words, parts)
                ) for (header, parts), words in zip(HEADERS, fields)
            )
            self.assertEqual(parse(frame, (packet[0], send(frame, changed, rest))), (changed, rest))
            tried += 1
        return tried


if __name__ == "__main__":
    unittest.main()
