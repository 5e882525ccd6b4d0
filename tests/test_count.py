"""Promise 4: count."""

import random
import unittest

from tests.helper import RELAY, SlowScheme, ask, chance_text, count, last, lines, load, reach, when

HOLDS = lines("in a", "in b", "relay r at 2", "close a 0 1", "close r 0 1", "open b 1 2")
LAGS = lines("in a", "relay r at 1", "close a 0 1", "close r 0 8", "open a 0 9")
R = RELAY[0]


def sized(inputs, relays):
    """The text of a scheme with so many inputs and relays, each relay at the rail."""
    return lines(*[f"in i{number}" for number in range(inputs)], *[f"relay r{number} at 0" for number in range(relays)])


NINE = sized(9, 0)
SIX = sized(0, 6)


def counted(text, **wanted):
    """The answer of count for what's wanted of a scheme."""
    loaded, answer = ask(load(0, text), count(0, **wanted))
    if loaded != [0, 0, 0]:
        raise ValueError(f"{loaded}")
    return answer


class Counted(unittest.TestCase):
    def test_nothing_wanted(self):
        self.assertEqual(ask(count(0), count(1)), [[0, 1], [0, 1]])
        for text in (HOLDS, LAGS, sized(3, 0), sized(0, 5), lines("relay r at 1"), lines("relay r at 1", "open r 0 1")):
            states = last(load(0, text), reach(0))
            self.assertEqual(counted(text), [0, len(states) - 1])

    def test_variables_on(self):
        self.assertEqual(counted(HOLDS, on=1), [0, 4])
        self.assertEqual(counted(HOLDS, on=R), [0, 4])
        self.assertEqual(counted(HOLDS, on=R + 3), [0, 1])
        self.assertEqual(counted(sized(8, 0), on=128), [0, 128])

    def test_variables_off(self):
        self.assertEqual(counted(HOLDS, off=1), [0, 4])
        self.assertEqual(counted(HOLDS, off=R + 3), [0, 1])
        self.assertEqual(counted(HOLDS, on=1, off=2), [0, 2])

    def test_states_that_cannot_be_are_not_counted(self):
        text = lines("in a", "relay r at 1", "relay s at 2", "close a 0 1")
        self.assertEqual(counted(text), [0, 4])
        self.assertEqual(counted(text, on=1), [0, 2])
        self.assertEqual(counted(text, on=RELAY[1]), [0, 0])
        self.assertEqual(counted(text, off=RELAY[1]), [0, 4])

    def test_states_on_the_way_are_counted_too(self):
        self.assertEqual(counted(LAGS), [0, 4])
        self.assertEqual(counted(LAGS, live=[8, 9]), [0, 1])
        self.assertEqual(counted(lines("relay r at 1", "open r 0 1")), [0, 2])
        self.assertEqual(counted(lines("relay r at 1", "relay s at 2", "open s 0 1", "open r 0 2")), [0, 4])

    def test_nodes_live_and_dead(self):
        # Node 1 is live if a or r is on, node 2 if b isn't on besides.
        self.assertEqual(counted(HOLDS, live=[1]), [0, 6])
        self.assertEqual(counted(HOLDS, dead=[1]), [0, 2])
        self.assertEqual(counted(HOLDS, live=[2]), [0, 3])
        self.assertEqual(counted(HOLDS, dead=[2]), [0, 5])
        self.assertEqual(counted(HOLDS, live=[1], dead=[2]), [0, 3])
        self.assertEqual(counted(HOLDS, live=[2], dead=[1]), [0, 0])
        self.assertEqual(counted(HOLDS, live=[1, 2], on=1), [0, 2])

    def test_each_node_of_the_lists_counts(self):
        text = lines("in a", "in b", "close a 0 1", "close b 0 2")
        self.assertEqual(counted(text, live=[1, 2]), [0, 1])
        self.assertEqual(counted(text, live=[2, 1]), [0, 1])
        self.assertEqual(counted(text, dead=[1, 2]), [0, 1])
        self.assertEqual(counted(text, dead=[3, 2]), [0, 2])
        self.assertEqual(counted(text, live=[1, 1, 1], dead=[2, 2]), [0, 1])

    def test_rail_is_always_live(self):
        self.assertEqual(counted(HOLDS, live=[0]), [0, 8])
        self.assertEqual(counted(HOLDS, dead=[0]), [0, 0])
        self.assertEqual(ask(count(0, live=[0]), count(0, dead=[0])), [[0, 1], [0, 0]])

    def test_nodes_without_contacts(self):
        self.assertEqual(counted(HOLDS, live=[63]), [0, 0])
        self.assertEqual(counted(HOLDS, dead=[63, 40]), [0, 8])

    def test_bits_of_no_variable_are_never_on(self):
        for bit in (2, 15, 17, 27, 28, 31):
            self.assertEqual(counted(HOLDS, on=1 << bit), [0, 0], bit)
            self.assertEqual(counted(HOLDS, on=1 + (1 << bit)), [0, 0], bit)
        self.assertEqual(ask(count(0, on=4294967295)), [[0, 0]])

    def test_bits_of_no_variable_are_off(self):
        for bit in (2, 15, 17, 27, 28, 31):
            self.assertEqual(counted(HOLDS, off=1 << bit), [0, 8], bit)
        self.assertEqual(counted(HOLDS, off=4294967295), [0, 1])
        self.assertEqual(counted(HOLDS, off=4294967295 - R - 3), [0, 8])

    def test_never(self):
        self.assertEqual(counted(HOLDS, on=1, off=1), [0, 0])
        self.assertEqual(counted(HOLDS, live=[1], dead=[1]), [0, 0])
        self.assertEqual(counted(lines("relay r at 1"), on=R), [0, 0])

    def test_each_of_the_states_that_can_be_counts_once(self):
        for text in (HOLDS, LAGS, chance_text(5, 3, 3, 5, 9)):
            slow = SlowScheme(text)
            everything = (1 << len(slow.names)) - 1 + sum(RELAY[:len(slow.relays)])
            states = last(load(0, text), reach(0))[1:]
            for state in states:
                self.assertEqual(counted(text, on=state, off=everything - state), [0, 1])

    def test_what_is_and_what_is_not_make_the_whole(self):
        for seed in range(20):
            text = chance_text(seed, 2, 3, 5, 8)
            whole = len(last(load(0, text), reach(0))) - 1
            for wanted in ({"on": 1}, {"on": RELAY[1]}, {"live": [2]}, {"live": [5]}):
                other = {"off": wanted["on"]} if "on" in wanted else {"dead": wanted["live"]}
                self.assertEqual(counted(text, **wanted)[1] + counted(text, **other)[1], whole)

    def test_many_schemes_the_slow_way(self):
        chance = random.Random(12)
        for seed in range(120):
            inputs, relays = seed % 4, 1 + seed % 5 if seed % 4 < 2 else 3
            text = chance_text(3000 + seed, inputs, relays, 5, 3 + seed % 9)
            slow = SlowScheme(text)
            bits = [1 << number for number in range(inputs)] + RELAY[:relays]
            calls = [load(0, text)]
            expected = [[0, 0, 0]]
            for turn in range(20):
                wanted = {
                    "on": sum(chance.sample(bits, chance.randint(0, min(2, len(bits))))),
                    "off": sum(chance.sample(bits, chance.randint(0, min(2, len(bits))))),
                    "live": [chance.randint(0, 5) for number in range(chance.randint(0, 2))],
                    "dead": [chance.randint(0, 5) for number in range(chance.randint(0, 2))],
                }
                calls += [count(0, **wanted), when(0, **wanted)]
                expected += [slow.count(**wanted), slow.when(**wanted)]
                self.assertEqual(expected[-2] == [0, 0], expected[-1] == [-5])
            for part in range(0, len(calls), 39):
                self.assertEqual(ask(calls[0], *calls[part + 1:part + 40])[1:], expected[part + 1:part + 40], text)


class Refused(unittest.TestCase):
    def test_no_such_cabinet(self):
        for c in (-4294967296, -2, -1, 2, 4294967296):
            self.assertEqual(ask(count(c)), [[-1]])

    def test_bits_at_the_edges(self):
        for bits in (-4294967296, -1, 4294967296):
            self.assertEqual(ask(count(0, on=bits), count(0, off=bits)), [[-1], [-1]])
        self.assertEqual(ask(count(0, on=4294967295), count(0, off=4294967295)), [[0, 0], [0, 1]])

    def test_nodes_at_the_edges(self):
        for node in (-4294967296, -1, 64, 4294967296):
            self.assertEqual(ask(count(0, live=[node]), count(0, dead=[node]), count(0, live=[0, node]),
                                 count(0, dead=[1, 2, node])), [[-1]] * 4)
        self.assertEqual(ask(count(0, live=[63]), count(0, dead=[63])), [[0, 0], [0, 1]])

    def test_size_at_the_edges(self):
        for relays in range(6):
            self.assertEqual(counted(sized(8 - relays, relays)), [0, 256])
            self.assertEqual(counted(sized(9 - relays, relays)), [-9])
        self.assertEqual(counted(sized(0, 5)), [0, 32])
        self.assertEqual(counted(SIX), [-9])
        self.assertEqual(counted(sized(2, 6)), [-9])
        self.assertEqual(counted(sized(16, 0)), [-9])

    def test_wrong_ahead_of_too_large(self):
        for text in (NINE, SIX):
            self.assertEqual(counted(text, on=-1), [-1])
            self.assertEqual(counted(text, off=4294967296), [-1])
            self.assertEqual(counted(text, live=[64]), [-1])
            self.assertEqual(counted(text, dead=[-1]), [-1])
            self.assertEqual(last(load(0, text), count(2)), [-1])

    def test_too_large_ahead_of_an_answer(self):
        for text in (NINE, SIX):
            self.assertEqual(counted(text, dead=[0]), [-9])
            self.assertEqual(counted(text, on=1, off=1), [-9])

    def test_each_cabinet_for_itself(self):
        calls = [load(0, HOLDS), load(1, lines("in x", "in y", "close y 0 1"))]
        self.assertEqual(ask(*calls, count(0, live=[1]), count(1, live=[1]), count(1))[2:], [[0, 6], [0, 2], [0, 4]])
        self.assertEqual(last(load(0, NINE), count(1)), [0, 1])
        self.assertEqual(last(load(1, NINE), count(1)), [-9])

    def test_refusal_changes_nothing(self):
        calls = [count(0, on=R), count(1), reach(0)]
        before = ask(load(0, HOLDS), *calls)[1:]
        after = ask(load(0, HOLDS), count(5), count(0, on=-1), count(0, live=[64]), *calls)
        self.assertEqual(after[1:4], [[-1]] * 3)
        self.assertEqual(after[4:], before)


if __name__ == "__main__":
    unittest.main()
