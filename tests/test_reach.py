"""Promise 2: reach."""

import unittest

from tests.helper import RELAY, SlowScheme, ask, chance_text, last, lines, load, reach


def states_of(*rows):
    """The states that can be in a scheme of these lines."""
    loaded, told = ask(load(0, lines(*rows)), reach(0))
    if loaded != [0, 0, 0] or told[0] != 0:
        raise ValueError(f"{loaded} {told}")
    return told[1:]


def sized(inputs, relays):
    """The text of a scheme with so many inputs and relays, without contacts."""
    return lines(*[f"in i{number}" for number in range(inputs)], *[f"relay r{number} at 1" for number in range(relays)])


class StatesThatCanBe(unittest.TestCase):
    def test_without_anything(self):
        self.assertEqual(ask(reach(0), reach(1)), [[0, 0], [0, 0]])

    def test_inputs_alone(self):
        self.assertEqual(states_of("in a"), [0, 1])
        self.assertEqual(states_of("in a", "in b", "in c"), [0, 1, 2, 3, 4, 5, 6, 7])
        self.assertEqual(states_of(*[f"in i{number}" for number in range(8)]), list(range(256)))

    def test_relay_that_never_draws(self):
        self.assertEqual(states_of("in a", "relay r at 1"), [0, 1])

    def test_relay_at_the_rail(self):
        self.assertEqual(states_of("relay r at 0"), [0, RELAY[0]])

    def test_rest_is_not_left_by_moves(self):
        self.assertEqual(states_of("relay r at 1", "close r 0 1"), [0])

    def test_relay_follows_an_input_and_lags(self):
        self.assertEqual(states_of("in a", "relay r at 1", "close a 0 1"), [0, 1, RELAY[0], RELAY[0] + 1])

    def test_relay_that_holds_itself(self):
        rows = ("in a", "in b", "relay r at 2", "close a 0 1", "close r 0 1", "open b 1 2")
        self.assertEqual(states_of(*rows), [0, 1, 2, 3] + [RELAY[0] + low for low in (0, 1, 2, 3)])

    def test_relay_that_nothing_lets_go(self):
        self.assertEqual(states_of("relay r at 1", "relay s at 2", "open s 0 1", "close r 0 1", "close r 0 2"),
                         [0, RELAY[0], RELAY[0] + RELAY[1]])

    def test_relays_that_race(self):
        rows = ("relay r at 1", "relay s at 2", "open s 0 1", "open r 0 2")
        self.assertEqual(states_of(*rows), [0, RELAY[0], RELAY[1], RELAY[0] + RELAY[1]])

    def test_race_in_which_one_may_be_first(self):
        rows = ("relay r at 1", "relay s at 2", "relay t at 3", "open s 0 1", "close r 0 1", "open r 0 2", "close s 0 2",
                "close r 0 4", "close s 3 4")
        r, s, t = RELAY[:3]
        self.assertEqual(states_of(*rows), [0, r, s, r + s, r + s + t])

    def test_relay_that_never_rests(self):
        self.assertEqual(states_of("relay r at 1", "open r 0 1"), [0, RELAY[0]])
        self.assertEqual(states_of("in a", "relay r at 2", "close a 0 1", "open r 1 2"),
                         [0, 1, RELAY[0], RELAY[0] + 1])

    def test_all_of_several_relays_at_once(self):
        rows = ["relay r at 0", "relay s at 0", "relay t at 0", "relay u at 5", "close r 0 1", "close s 0 2",
                "open s 1 2", "open t 1 3", "open s 3 4", "open t 4 5"]
        states = states_of(*rows)
        self.assertEqual(states, SlowScheme(lines(*rows)).reach()[1:])
        self.assertIn(RELAY[0] + RELAY[1] + RELAY[2], states)

    def test_current_runs_both_ways_through_a_contact(self):
        rows = ("in a", "relay r at 1", "close a 0 9", "open r 1 9")
        self.assertEqual(states_of(*rows), [0, 1, RELAY[0], RELAY[0] + 1])
        self.assertEqual(states_of("in a", "relay r at 1", "close a 1 9", "open a 1 9"), [0, 1])

    def test_contacts_at_one_node_and_in_a_row(self):
        rows = ("in a", "in b", "relay r at 3", "close a 0 2", "close b 2 3")
        self.assertEqual(states_of(*rows), [0, 1, 2, 3] + [RELAY[0] + low for low in (0, 1, 2, 3)])

    def test_long_row_of_contacts(self):
        rows = ["in a", "relay r at 63"] + [f"close a {node} {node + 1}" for node in range(63)]
        self.assertEqual(states_of(*rows), [0, 1, RELAY[0], RELAY[0] + 1])
        rows = ["in a", "relay r at 63"] + [f"close a {node} {node + 1}" for node in range(63) if node != 40]
        self.assertEqual(states_of(*rows), [0, 1])

    def test_lamps_do_nothing(self):
        self.assertEqual(states_of("in a", "lamp l at 0", "lamp m at 1", "close a 0 1"), [0, 1])

    def test_states_rise(self):
        states = states_of("in a", "in b", "in c", "relay r at 0", "relay s at 1", "close b 0 1")
        self.assertEqual(states, sorted(set(states)))
        self.assertEqual(len(states), 32)

    def test_many_schemes_the_slow_way(self):
        for seed in range(250):
            text = chance_text(seed, seed % 4, 1 + seed % 5 if seed % 4 < 2 else seed % 4, 5, 2 + seed % 9)
            self.assertEqual(last(load(0, text), reach(0)), SlowScheme(text).reach(), text)


class Refused(unittest.TestCase):
    def test_no_such_cabinet(self):
        for c in (-4294967296, -2, -1, 2, 4294967296):
            self.assertEqual(ask(reach(c)), [[-1]])

    def test_relays_at_the_edge(self):
        self.assertEqual(last(load(0, sized(0, 5)), reach(0)), [0, 0])
        self.assertEqual(last(load(0, sized(0, 6)), reach(0)), [-9])
        self.assertEqual(last(load(0, sized(2, 6)), reach(0)), [-9])
        self.assertEqual(last(load(0, sized(0, 12)), reach(0)), [-9])

    def test_inputs_and_relays_at_the_edge(self):
        for relays in range(6):
            self.assertEqual(last(load(0, sized(8 - relays, relays)), reach(0)), [0] + list(range(1 << 8 - relays)))
            self.assertEqual(last(load(0, sized(9 - relays, relays)), reach(0)), [-9])
        self.assertEqual(last(load(0, sized(16, 0)), reach(0)), [-9])

    def test_lamps_and_contacts_count_for_nothing(self):
        text = sized(3, 5) + lines(*[f"lamp l{number} at 1" for number in range(16)], *["open i0 2 3"] * 256)
        self.assertEqual(last(load(0, text), reach(0)), [0] + list(range(8)))

    def test_each_cabinet_for_itself(self):
        told = ask(load(0, sized(0, 6)), reach(0), reach(1), load(1, sized(9, 0)), reach(1), load(0, sized(1, 0)),
                   reach(0), reach(2))
        self.assertEqual(told[1:3] + told[4:5] + told[6:], [[-9], [0, 0], [-9], [0, 0, 1], [-1]])


if __name__ == "__main__":
    unittest.main()
