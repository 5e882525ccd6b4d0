"""Promise 1: load, and the texts of schemes."""

import random
import unittest

from tests.helper import RELAY, ask, last, lines, load, reach, slow_fault, when

GOOD = lines("in a", "relay r at 2", "lamp l at 1", "close a 0 2", "open r 0 1")


def fault_of(text):
    return last(load(0, text))[1:]


class Loaded(unittest.TestCase):
    def check_good(self, text):
        self.assertEqual(ask(load(0, text)), [[0, 0, 0]], text)

    def test_scheme_is_the_cabinets_from_now_on(self):
        told = ask(reach(0), load(0, GOOD), reach(0), reach(1))
        self.assertEqual(told, [[0, 0], [0, 0, 0], [0, 0, 1, RELAY[0], RELAY[0] + 1], [0, 0]])

    def test_second_cabinet(self):
        self.assertEqual(ask(load(1, lines("in a")), reach(0), reach(1)), [[0, 0, 0], [0, 0], [0, 0, 1]])

    def test_later_load_takes_the_place_of_the_earlier(self):
        told = ask(load(0, GOOD), load(0, lines("in x", "in y")), reach(0), load(0, ""), reach(0))
        self.assertEqual(told, [[0, 0, 0], [0, 0, 0], [0, 0, 1, 2, 3], [0, 0, 0], [0, 0]])

    def test_empty_text(self):
        self.assertEqual(ask(load(0, ""), reach(0)), [[0, 0, 0], [0, 0]])

    def test_each_kind_of_line_alone(self):
        for line in ("in a", "relay a at 0", "lamp a at 0", "relay a at 63", "lamp a at 63"):
            self.check_good(lines(line))

    def test_words_may_be_names(self):
        self.check_good(lines("in in", "in at", "relay relay at 1 up 1", "relay up at 2", "lamp lamp at 3",
                              "lamp open at 3", "close in 0 1", "open relay 0 1", "open at 1 2", "close up 1 2"))

    def test_contact_opener_and_closer(self):
        text = lines("in a", "close a 0 1", "open a 0 2")
        self.assertEqual(last(load(0, text), when(0, live=[1])), [0, 1, 1])
        self.assertEqual(last(load(0, text), when(0, live=[2])), [0, 0])
        self.assertEqual(last(load(0, text), when(0, dead=[2])), [0, 1, 1])

    def test_contact_of_a_relay_and_of_a_later_input(self):
        text = lines("in a", "in b", "relay r at 0", "relay s at 9", "close b 0 5", "close r 0 6", "close s 0 7")
        self.assertEqual(last(load(0, text), when(0, live=[5])), [0, 1, 2])
        self.assertEqual(last(load(0, text), when(0, live=[6])), [0, 0, RELAY[0]])
        self.assertEqual(last(load(0, text), when(0, live=[7])), [-5])

    def test_nodes_up_to_63_are_kept(self):
        text = lines("in a", "relay r at 63", "close a 62 63", "open a 0 62")
        self.assertEqual(last(load(0, text), when(0, live=[62])), [0, 0])
        text = lines("in a", "relay r at 63", "close a 0 63")
        self.assertEqual(last(load(0, text), when(0, on=RELAY[0])), [0, 1, 1, RELAY[0] + 1])

    def test_delays_make_no_difference(self):
        plain = ask(load(0, GOOD), reach(0), when(0, on=RELAY[0], off=1))[1:]
        for delays in ("up 1", "down 1", "up 65535 down 65535", "up 7 down 1"):
            text = GOOD.replace("at 2", f"at 2 {delays}")
            self.assertEqual(ask(load(0, text), reach(0), when(0, on=RELAY[0], off=1)), [[0, 0, 0]] + plain)

    def test_numbers_of_each_sort_up_to_the_most(self):
        text = lines(*[f"in i{number}" for number in range(16)], *[f"relay r{number} at 1" for number in range(12)],
                     *[f"lamp l{number} at 1" for number in range(16)], *["open r11 0 1"] * 256)
        self.check_good(text)
        self.assertEqual(last(load(0, text), reach(0)), [-9])


class Shapeless(unittest.TestCase):
    """Faults of kind 1."""

    def check_line(self, line, good=False):
        """Check one line ahead of which stands what it needs."""
        ahead = lines("in a") if line.split(" ")[0] in ("open", "close", "in") else ""
        expected = [0, 0] if good else [1, ahead.count("\n")]
        self.assertEqual(fault_of(ahead + line + "\n"), expected, line)

    def test_last_line_without_its_end(self):
        self.assertEqual(fault_of("in a"), [1, 0])
        self.assertEqual(fault_of("in a\nin b"), [1, 1])
        self.assertEqual(fault_of("in a\n "), [1, 1])
        self.assertEqual(fault_of(" "), [1, 0])

    def test_empty_lines(self):
        self.assertEqual(fault_of("\n"), [1, 0])
        self.assertEqual(fault_of("in a\n\n"), [1, 1])
        self.assertEqual(fault_of("in a\n\nin b\n"), [1, 1])

    def test_blanks(self):
        for line in (" in b", "in b ", "in  b", "in", "in ", "relay b  at 1", "relay b at 1 ", "lamp b at  1",
                     "close a 0  1", "close a 0 1 ", "open  a 0 1", "inb", "in\tb", "in b\r", "close a 0\x0b1"):
            self.check_line(line)

    def test_words(self):
        for line in ("In b", "IN b", "input b", "relay b on 1", "relay b 1", "relay b at", "relay b", "lamp b",
                     "lamp b at", "lamp b at 1 up 1", "lamp b at 1 down 1", "in b at 1", "in b c", "closer a 0 1",
                     "open a 0", "open a", "open", "close a 0 1 2", "at b 1", "b", "relais b at 1", "lamp b by 1"):
            self.check_line(line)

    def test_names(self):
        for name in ("b", "z", "b9", "z0z0z0z0z0z0", "abcdefghijkl", "b00000000000"):
            self.check_line(f"in {name}", good=True)
            self.check_line(f"relay {name} at 1", good=True)
            self.check_line(f"lamp {name} at 1", good=True)
        for name in ("", "0", "9b", "B", "bB", "abcdefghijklm", "b000000000000", "b_", "b-", "b.", "b'", "b?", "?",
                     "b`", "b{", "b/", "b:", "b\xe9", "\xe9", "b\xb2", "\xaa", "b\x00", "b\xff", "b\xa0"):
            self.check_line(f"in {name}")
            self.check_line(f"relay {name} at 1")
            self.check_line(f"lamp {name} at 1")
            self.check_line(f"close {name} 0 1")
            self.check_line(f"open {name} 0 1")

    def test_nodes(self):
        for node in ("0", "1", "9", "10", "62", "63"):
            self.check_line(f"relay b at {node}", good=True)
            self.check_line(f"lamp b at {node}", good=True)
        for node in ("", "64", "99", "100", "630", "00", "01", "063", "-1", "+1", "1.0", "x", "1x", "\xb2", "4294967296",
                     "9" * 6000):
            self.check_line(f"relay b at {node}")
            self.check_line(f"lamp b at {node}")
            self.check_line(f"open a 0 {node}")
            self.check_line(f"close a {node} 63")

    def test_two_nodes(self):
        for nodes in ("0 1", "0 63", "62 63", "9 10", "1 2", "2 10"):
            self.check_line(f"open a {nodes}", good=True)
            self.check_line(f"close a {nodes}", good=True)
        for nodes in ("0 0", "1 1", "63 63", "1 0", "63 0", "10 9", "10 2", "63 64", "64 65", "0 64", "0 00", "0 01",
                      "00 1", "01 2"):
            self.check_line(f"open a {nodes}")
            self.check_line(f"close a {nodes}")

    def test_ticks(self):
        for delays in ("up 1", "down 1", "up 65535", "down 65535", "up 9 down 10", "up 10000 down 60000"):
            self.check_line(f"relay b at 1 {delays}", good=True)
        for ticks in ("", "0", "65536", "99999", "100000", "00", "01", "065535", "-1", "1.5", "x", "9" * 5000):
            self.check_line(f"relay b at 1 up {ticks}")
            self.check_line(f"relay b at 1 down {ticks}")
            self.check_line(f"relay b at 1 up 1 down {ticks}")
            self.check_line(f"relay b at 1 up {ticks} down 1")

    def test_order_of_delays(self):
        for delays in ("down 1 up 1", "up 1 up 1", "down 1 down 1", "up", "down", "up 1 down", "up down 1", "1", "1 1",
                       "up 1 down 1 up 1", "up 1 down 1 down 1", "up 1 1", "up 1 down 1 1", "Up 1", "upp 1"):
            self.check_line(f"relay b at 1 {delays}")

    def test_every_byte_in_a_name(self):
        for byte in range(256):
            text = [105, 110, 32, 97, byte, 10]
            good = 97 <= byte <= 122 or 48 <= byte <= 57
            expected = [0, 0] if good else [1, 1 if byte == 10 else 0]
            self.assertEqual(last(load(0, text))[1:], expected, byte)

    def test_every_byte_in_a_number(self):
        for byte in range(256):
            text = list(b"lamp a at 1") + [byte, 10]
            expected = [0, 0] if 48 <= byte <= 57 else [1, 1 if byte == 10 else 0]
            self.assertEqual(last(load(0, text))[1:], expected, byte)


class LaterFaults(unittest.TestCase):
    """Faults of the kinds 2 to 5."""

    def test_line_behind_a_later_sort(self):
        firsts = ("in b", "relay b at 1", "lamp b at 1", "close a 0 1")
        seconds = ("in c", "relay c at 1", "lamp c at 1", "open a 0 1")
        for first in range(4):
            for second in range(4):
                expected = [2, 2] if second < first else [0, 0]
                self.assertEqual(fault_of(lines("in a", firsts[first], seconds[second])), expected, (first, second))

    def test_sort_is_measured_by_the_latest_ahead(self):
        self.assertEqual(fault_of(lines("lamp l at 1", "in a", "relay r at 1")), [2, 1])
        self.assertEqual(fault_of(lines("in a", "open a 0 1", "close a 0 1", "lamp l at 1", "in b")), [2, 3])
        self.assertEqual(fault_of(lines("relay r at 1", "lamp l at 1", "relay s at 1")), [2, 2])

    def test_too_many_inputs(self):
        rows = [f"in i{number}" for number in range(18)]
        self.assertEqual(fault_of(lines(*rows[:16])), [0, 0])
        self.assertEqual(fault_of(lines(*rows[:17])), [3, 16])
        self.assertEqual(fault_of(lines(*rows)), [3, 16])

    def test_too_many_relays(self):
        rows = ["in a"] + [f"relay r{number} at 1" for number in range(14)]
        self.assertEqual(fault_of(lines(*rows[:13])), [0, 0])
        self.assertEqual(fault_of(lines(*rows[:14])), [3, 13])
        self.assertEqual(fault_of(lines(*rows)), [3, 13])

    def test_too_many_lamps(self):
        rows = [f"lamp l{number} at 1" for number in range(18)]
        self.assertEqual(fault_of(lines(*rows[:16])), [0, 0])
        self.assertEqual(fault_of(lines(*rows[:17])), [3, 16])
        self.assertEqual(fault_of(lines(*rows)), [3, 16])

    def test_too_many_contacts(self):
        rows = ["in a"] + ["open a 0 1"] * 258
        self.assertEqual(fault_of(lines(*rows[:257])), [0, 0])
        self.assertEqual(fault_of(lines(*rows[:258])), [3, 257])
        self.assertEqual(fault_of(lines(*rows)), [3, 257])

    def test_name_given_before(self):
        for earlier in ("in a", "relay a at 1", "lamp a at 1"):
            for later in ("in a", "relay a at 1", "lamp a at 1"):
                sorts = [("in", "relay", "lamp").index(line.split(" ")[0]) for line in (earlier, later)]
                expected = [4, 1] if sorts[0] <= sorts[1] else [2, 1]
                self.assertEqual(fault_of(lines(earlier, later)), expected)

    def test_name_given_before_is_told_at_the_later_line(self):
        self.assertEqual(fault_of(lines("in a", "in b", "in c", "in b", "in a")), [4, 3])
        self.assertEqual(fault_of(lines("in a", "in ab", "in a1", "in b")), [0, 0])

    def test_contacts_may_share_a_name(self):
        self.assertEqual(fault_of(lines("in a", "open a 0 1", "open a 0 1", "close a 0 1")), [0, 0])

    def test_contact_of_no_input_or_relay(self):
        self.assertEqual(fault_of(lines("close a 0 1")), [5, 0])
        self.assertEqual(fault_of(lines("in a", "open a 0 1", "open b 0 1", "close c 0 1")), [5, 2])
        self.assertEqual(fault_of(lines("relay r at 1", "open r 0 1")), [0, 0])

    def test_contact_of_a_lamp(self):
        self.assertEqual(fault_of(lines("in a", "lamp l at 1", "close a 0 1", "close l 0 1")), [5, 3])


class FirstFault(unittest.TestCase):
    def test_least_kind_before_the_first_line(self):
        unknown = ["open x 0 1"]
        again = ["in a", "in a"]
        many = [f"in i{number}" for number in range(17)]
        misplaced = ["lamp l at 1", "in m"]
        self.assertEqual(fault_of(lines(*again, *unknown)), [4, 1])
        self.assertEqual(fault_of(lines(*again, *many, *unknown)), [3, 16])
        self.assertEqual(fault_of(lines(*again, *many, *misplaced, *unknown)), [2, 20])
        self.assertEqual(fault_of(lines(*again, *many, *misplaced, *unknown, "")), [1, 22])
        self.assertEqual(fault_of(lines(*again, *many, *misplaced, *unknown) + "in z"), [1, 22])

    def test_first_line_of_the_least_kind(self):
        self.assertEqual(fault_of(lines("in a", "x", "in b", "y") + "z"), [1, 1])
        self.assertEqual(fault_of(lines("open x 0 1", "in a", "lamp b at 1", "in a")), [2, 1])
        self.assertEqual(fault_of(lines("in a", "relay a at 1", "lamp a at 1", "open y 0 1", "open x 0 1")), [4, 1])

    def test_one_line_of_several_kinds(self):
        self.assertEqual(fault_of(lines(*[f"in i{number}" for number in range(16)], "in i0")), [3, 16])
        self.assertEqual(fault_of(lines("relay a at 1", "in a")), [2, 1])

    def test_many_texts_the_slow_way(self):
        chance = random.Random(7)
        pieces = ("in a", "in b", "in c1", "relay r at 1", "relay s at 63 up 5", "relay a at 2 down 9", "lamp l at 3",
                  "lamp m at 0", "close a 0 1", "open r 1 2", "close l 0 3", "open q 5 6")
        for turn in range(1500):
            chosen = [chance.choice(pieces) for number in range(chance.randint(0, 7))]
            if turn % 3:
                chosen = sorted(chosen, key=lambda line: ("in", "relay", "lamp").index(line.split(" ")[0])
                                if line.split(" ")[0] in ("in", "relay", "lamp") else 3)
            text = lines(*chosen)
            if turn % 5 == 0 and text:
                place = chance.randrange(len(text))
                text = text[:place] + chance.choice("a 0\n9Z") + text[place + chance.randint(0, 1):]
            self.assertEqual(fault_of(text), list(slow_fault(text)), text)


class Refused(unittest.TestCase):
    def test_no_such_cabinet(self):
        for c in (-4294967296, -2, -1, 2, 3, 65536, 4294967296):
            self.assertEqual(ask(load(c, GOOD), load(c, ""), load(c, "x"), reach(0), reach(1)),
                             [[-1], [-1], [-1], [0, 0], [0, 0]])

    def test_length_of_a_text(self):
        text = lines("in a", "lamp l at 1") + "x" * 20000
        self.assertEqual(ask(load(0, text[:20000])), [[0, 1, 2]])
        self.assertEqual(ask(load(0, text[:20001])), [[-1]])
        self.assertEqual(ask(load(0, [10] * 20000)), [[0, 1, 0]])
        self.assertEqual(ask(load(0, [10] * 20001)), [[-1]])
        self.assertEqual(ask(load(1, [10] * 20100)), [[-1]])

    def test_long_text_of_good_lines(self):
        text = lines("in abcdefgh") + "open abcdefgh 0 1\n" * 1110
        self.assertEqual(len(text), 19992)
        self.assertEqual(ask(load(0, text)), [[0, 3, 257]])

    def test_faulty_load_leaves_the_object_as_it_was(self):
        before = ask(load(0, GOOD), load(1, lines("in z")), reach(0), reach(1), when(0, on=RELAY[0]))[2:]
        seventeen = lines(*[f"in i{number}" for number in range(17)])
        for text in ("x\n", "in a", lines("lamp l at 1", "in a"), seventeen, lines("in a", "in b", "in a"),
                     lines("in a", "in b", "close x 0 1"), [10] * 20001):
            told = ask(load(0, GOOD), load(1, lines("in z")), load(0, text), load(1, text), reach(0), reach(1),
                       when(0, on=RELAY[0]))
            self.assertNotEqual(told[2], [0, 0, 0])
            self.assertEqual(told[2], told[3])
            self.assertEqual(told[4:], before)


if __name__ == "__main__":
    unittest.main()
