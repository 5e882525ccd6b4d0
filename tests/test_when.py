"""Promise 3: when."""

import random
import unittest

from tests.helper import RELAY, SlowScheme, ask, chance_text, last, lines, load, reach, when

HOLDS = lines("in a", "in b", "relay r at 2", "close a 0 1", "close r 0 1", "open b 1 2")


def sized(inputs, relays):
    """The text of a scheme with so many inputs and relays, each relay at the rail."""
    return lines(*[f"in i{number}" for number in range(inputs)], *[f"relay r{number} at 0" for number in range(relays)])


NINE = sized(9, 0)
SIX = sized(0, 6)


def told(text, **wanted):
    """The answer of when for what's wanted of a scheme."""
    loaded, answer = ask(load(0, text), when(0, **wanted))
    if loaded != [0, 0, 0]:
        raise ValueError(f"{loaded}")
    return answer


class CaseTold(unittest.TestCase):
    def test_so_in_state_0(self):
        self.assertEqual(ask(when(0), when(1), when(0, live=[0]), when(0, dead=[1, 63])), [[0, 0]] * 4)
        self.assertEqual(told(HOLDS), [0, 0])
        self.assertEqual(told(HOLDS, off=RELAY[0] + 3, live=[0], dead=[1, 2]), [0, 0])

    def test_steps_of_both_sorts(self):
        self.assertEqual(told(HOLDS, on=1), [0, 1, 1])
        self.assertEqual(told(HOLDS, on=RELAY[0]), [0, 1, 1, 1 + RELAY[0]])
        self.assertEqual(told(HOLDS, on=RELAY[0], off=1), [0, 2, 1, 1 + RELAY[0], RELAY[0]])

    def test_moves_without_operations(self):
        text = lines("in a", "relay r at 0", "relay s at 1", "close r 0 1")
        self.assertEqual(told(text, on=RELAY[1]), [0, 0, RELAY[0], RELAY[0] + RELAY[1]])

    def test_fewest_operations_before_fewest_steps(self):
        # By an input it's one step, by the relays alone three: no operation is fewer than one.
        text = lines("in a", "relay r at 0", "relay s at 1", "relay t at 2", "close r 0 1", "close s 0 2", "close t 0 9",
                     "close a 0 9")
        r, s, t = RELAY[:3]
        self.assertEqual(told(text, live=[9]), [0, 0, r, r + s, r + s + t])
        self.assertEqual(told(text, live=[9], off=t), [0, 1, 1])

    def test_fewest_steps_of_fewest_operations(self):
        # One after another the relays would go by lesser states: both at once is one step fewer.
        text = lines("relay r at 0", "relay s at 0")
        self.assertEqual(told(text, on=RELAY[0] + RELAY[1]), [0, 0, RELAY[0] + RELAY[1]])
        text = lines("in a", "relay r at 1", "relay s at 1", "close a 0 1")
        self.assertEqual(told(text, on=RELAY[0] + RELAY[1]), [0, 1, 1, 1 + RELAY[0] + RELAY[1]])

    def test_lesser_state_at_the_first_difference(self):
        text = lines("in a", "in b", "in c")
        self.assertEqual(told(text, on=7), [0, 3, 1, 3, 7])
        self.assertEqual(told(text, on=6), [0, 2, 2, 6])
        self.assertEqual(told(text, on=5), [0, 2, 1, 5])

    def test_lesser_state_counts_early_rather_than_late(self):
        # Both 1, 1 + r and 2 lead on; behind the lesser first state stands the greater last one.
        text = lines("in a", "in b", "relay r at 1", "relay s at 2", "close a 0 1", "close b 0 2", "close r 0 9",
                     "close s 0 9")
        self.assertEqual(told(text, live=[9]), [0, 1, 1, 1 + RELAY[0]])
        text = lines("in a", "in b", "relay s at 1", "relay r at 2", "close a 0 2", "close b 0 1", "close r 0 9",
                     "close s 0 9")
        self.assertEqual(told(text, live=[9]), [0, 1, 1, 1 + RELAY[1]])

    def test_operation_ahead_of_a_move_by_the_lesser_state(self):
        # The relay is drawn from the beginning: either order has as many operations and steps.
        text = lines("in a", "relay r at 0")
        self.assertEqual(told(text, on=1 + RELAY[0]), [0, 1, 1, 1 + RELAY[0]])

    def test_move_ahead_of_an_operation_where_it_must_be(self):
        # Turning the input first takes the relay its current.
        text = lines("in a", "relay r at 1", "open a 0 1", "close r 0 1")
        self.assertEqual(told(text, on=1 + RELAY[0]), [0, 1, RELAY[0], RELAY[0] + 1])

    def test_state_that_only_a_race_brings(self):
        text = lines("relay r at 1", "relay s at 2", "open s 0 1", "open r 0 2")
        self.assertEqual(told(text, on=RELAY[0] + RELAY[1]), [0, 0, RELAY[0] + RELAY[1]])
        self.assertEqual(told(text, on=RELAY[1], off=RELAY[0]), [0, 0, RELAY[1]])

    def test_operation_while_relays_lag(self):
        # Both inputs' nodes stand under current at once only while the relay hasn't let go yet.
        text = lines("in a", "relay r at 1", "close a 0 1", "close r 0 8", "open a 0 9")
        self.assertEqual(told(text, live=[8, 9]), [0, 2, 1, 1 + RELAY[0], RELAY[0]])

    def test_ends_at_the_first_state_in_which_it_is_so(self):
        text = lines("relay r at 1", "open r 0 1")
        self.assertEqual(told(text, on=RELAY[0]), [0, 0, RELAY[0]])
        self.assertEqual(told(text, live=[1]), [0, 0])
        self.assertEqual(told(text, dead=[1]), [0, 0, RELAY[0]])

    def test_input_turned_back(self):
        # A relay that draws while another does holds on by itself behind both.
        text = lines("in a", "relay r at 1", "relay s at 2", "close a 0 1", "close r 0 2", "close s 0 2")
        r, s = RELAY[:2]
        self.assertEqual(told(text, on=s, off=r + 1), [0, 2, 1, r + 1, r, s])

    def test_many_steps(self):
        rows = ["relay r at 1", "relay s at 2", "relay t at 3", "relay u at 4", "relay v at 5", "open r 0 9",
                "open r 0 1", "close r 0 2", "close s 0 2", "close s 0 3", "close t 0 3", "close t 0 4", "close u 0 4",
                "close u 0 5", "close v 0 5"]
        text = lines(*rows)
        slow = SlowScheme(text)
        wanted = {"on": RELAY[4], "off": RELAY[0]}
        self.assertEqual(told(text, **wanted), slow.when(**wanted))
        self.assertGreater(len(told(text, **wanted)), 6)

    def test_many_schemes_the_slow_way(self):
        chance = random.Random(11)
        for seed in range(250):
            inputs, relays = (seed % 4, 1 + seed % 4) if seed % 2 else (1 + seed % 3, 3)
            text = chance_text(1000 + seed, inputs, relays, 5, 3 + seed % 9)
            slow = SlowScheme(text)
            bits = [1 << number for number in range(inputs)] + RELAY[:relays]
            calls = [load(0, text)]
            expected = [[0, 0, 0]]
            for turn in range(20):
                wanted = {
                    "on": sum(chance.sample(bits, chance.randint(0, min(2, len(bits))))),
                    "off": sum(chance.sample(bits, chance.randint(0, min(2, len(bits))))),
                    "live": [chance.randint(0, 5) for number in range(chance.randint(0, 2))],
                    "dead": [chance.randint(0, 5) for number in range(chance.randint(0, 2))],
                }
                calls.append(when(0, **wanted))
                expected.append(slow.when(**wanted))
            self.assertEqual(ask(*calls), expected, text)

    def test_every_state_the_slow_way(self):
        for seed in range(30):
            text = chance_text(2000 + seed, 2, 3, 4, 7)
            slow = SlowScheme(text)
            everything = 3 + sum(RELAY[:3])
            for state in slow.best:
                wanted = {"on": state, "off": everything - state}
                self.assertEqual(told(text, **wanted), slow.when(**wanted), text)


class NeverIs(unittest.TestCase):
    def test_never(self):
        self.assertEqual(told(lines("relay r at 1"), on=RELAY[0]), [-5])
        self.assertEqual(told(lines("in a", "relay r at 1", "close a 0 1", "open a 0 2"), live=[1, 2]), [-5])
        self.assertEqual(told(lines("relay r at 1", "close r 0 1"), live=[1]), [-5])

    def test_on_and_off_at_once(self):
        self.assertEqual(told(HOLDS, on=1, off=1), [-5])
        self.assertEqual(told(HOLDS, on=3, off=RELAY[0] + 2), [-5])

    def test_bits_of_no_variable_are_never_on(self):
        for bit in (2, 15, 17, 27, 28, 31):
            self.assertEqual(told(lines("in a", "in c", "relay r at 1", "close a 0 1"), on=1 << bit), [-5], bit)
            self.assertEqual(told(lines("in a", "in c", "relay r at 1", "close a 0 1"), on=1 + (1 << bit)), [-5], bit)

    def test_bits_of_no_variable_are_off(self):
        for bit in (2, 15, 17, 27, 28, 31):
            self.assertEqual(told(HOLDS, on=1, off=1 << bit), [0, 1, 1], bit)
        self.assertEqual(told(HOLDS, off=4294967295), [0, 0])
        self.assertEqual(told(HOLDS, on=RELAY[0], off=4294967295 - RELAY[0] - 1), [0, 1, 1, 1 + RELAY[0]])
        self.assertEqual(told("", off=4294967295), [0, 0])
        self.assertEqual(told("", on=4294967295), [-5])

    def test_rail_is_always_live(self):
        self.assertEqual(told(HOLDS, live=[0], on=1), [0, 1, 1])
        self.assertEqual(told(HOLDS, dead=[0]), [-5])
        self.assertEqual(ask(when(0, live=[0]), when(0, dead=[0])), [[0, 0], [-5]])

    def test_nodes_without_contacts(self):
        self.assertEqual(told(HOLDS, live=[63]), [-5])
        self.assertEqual(told(HOLDS, dead=[63, 40], on=2), [0, 1, 2])

    def test_node_live_and_dead_at_once(self):
        self.assertEqual(told(HOLDS, live=[1], dead=[1]), [-5])

    def test_nodes_told_more_than_once(self):
        self.assertEqual(told(HOLDS, live=[1, 1, 0, 1], dead=[2, 2]), [0, 2, 1, 3])

    def test_each_node_of_the_lists_counts(self):
        text = lines("in a", "in b", "close a 0 1", "close b 0 2")
        self.assertEqual(told(text, live=[1, 2]), [0, 2, 1, 3])
        self.assertEqual(told(text, live=[2, 1]), [0, 2, 1, 3])
        self.assertEqual(told(text, live=[2], dead=[1]), [0, 1, 2])
        self.assertEqual(told(text, live=[1], dead=[3, 2]), [0, 1, 1])
        self.assertEqual(told(text, live=[1], dead=[2, 1]), [-5])

    def test_long_lists(self):
        self.assertEqual(told(HOLDS, live=[0] * 999 + [1], dead=[63] * 999 + [2]), [0, 2, 1, 3])


class Refused(unittest.TestCase):
    def test_no_such_cabinet(self):
        for c in (-4294967296, -2, -1, 2, 4294967296):
            self.assertEqual(ask(when(c)), [[-1]])

    def test_bits_at_the_edges(self):
        for bits in (-4294967296, -1, 4294967296):
            self.assertEqual(ask(when(0, on=bits), when(0, off=bits)), [[-1], [-1]])
        self.assertEqual(ask(when(0, on=4294967295), when(0, off=4294967295)), [[-5], [0, 0]])

    def test_nodes_at_the_edges(self):
        for node in (-4294967296, -1, 64, 4294967296):
            self.assertEqual(ask(when(0, live=[node]), when(0, dead=[node]), when(0, live=[0, node]),
                                 when(0, dead=[1, 2, node])), [[-1]] * 4)
        self.assertEqual(ask(when(0, live=[63]), when(0, dead=[63])), [[-5], [0, 0]])

    def test_size_at_the_edges(self):
        self.assertEqual(told(sized(9, 0)), [-9])
        self.assertEqual(told(sized(8, 0)), [0, 0])
        self.assertEqual(told(sized(0, 6)), [-9])
        self.assertEqual(told(sized(0, 5), on=sum(RELAY[:5])), [0, 0, sum(RELAY[:5])])
        self.assertEqual(told(sized(4, 5), on=4), [-9])
        self.assertEqual(told(sized(3, 5), on=4), [0, 1, 4])

    def test_wrong_ahead_of_too_large(self):
        for text in (NINE, SIX):
            self.assertEqual(told(text, on=-1), [-1])
            self.assertEqual(told(text, off=4294967296), [-1])
            self.assertEqual(told(text, live=[64]), [-1])
            self.assertEqual(told(text, dead=[-1]), [-1])

    def test_too_large_ahead_of_never(self):
        for text in (NINE, SIX):
            self.assertEqual(told(text, dead=[0]), [-9])
            self.assertEqual(told(text, on=1, off=1), [-9])

    def test_wrong_ahead_of_never(self):
        self.assertEqual(told(HOLDS, dead=[0, 64]), [-1])
        self.assertEqual(told(HOLDS, on=1 << 31, off=-1), [-1])
        self.assertEqual(ask(when(2, on=1 << 31)), [[-1]])

    def test_refusal_changes_nothing(self):
        calls = [reach(0), when(0, on=RELAY[0])]
        before = ask(load(0, HOLDS), *calls)[1:]
        after = ask(load(0, HOLDS), when(0, dead=[0]), when(5), when(0, on=-1), *calls)
        self.assertEqual(after[1:4], [[-5], [-1], [-1]])
        self.assertEqual(after[4:], before)

    def test_each_cabinet_for_itself(self):
        calls = [load(0, HOLDS), load(1, lines("in x", "in y", "close y 0 1"))]
        self.assertEqual(ask(*calls, when(0, live=[1]), when(1, live=[1]), when(1, live=[2]))[2:],
                         [[0, 1, 1], [0, 1, 2], [-5]])
        self.assertEqual(last(load(0, NINE), when(1)), [0, 0])


if __name__ == "__main__":
    unittest.main()
