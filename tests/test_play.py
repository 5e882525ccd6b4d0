"""Promise 5: play."""

import random
import unittest

from tests.helper import RELAY, SlowScheme, ask, chance_text, last, lines, load, play, reach

HOLDS = lines("in a", "in b", "relay r at 2", "close a 0 1", "close r 0 1", "open b 1 2")
# Each relay draws when the one ahead of it is on, the first while a is.
CHAIN = lines("in a", "relay r at 1", "relay s at 2", "relay t at 3", "close a 0 1", "close r 0 2", "close s 0 3")
# While a is on, r lets go as soon as it's on.
BLINKS = lines("in a", "in b", "relay r at 2", "close a 0 1", "open r 1 2")
# While a is on, r and s draw; s rests on if it's as quick as r.
RACES = lines("in a", "in b", "relay r at 1", "relay s at 2", "close a 0 1", "open r 1 2", "close s 1 2")
# While a is on, r blinks until s has come, and s may come at any time.
ENDS = lines("in a", "in b", "relay r at 3", "relay s at 1", "close a 0 1", "open s 1 2", "open r 2 3")
R, S, T = RELAY[:3]


def played(text, *inputs):
    """The answer of play for these inputs of a scheme."""
    loaded, answer = ask(load(0, text), play(0, inputs))
    if loaded != [0, 0, 0]:
        raise ValueError(f"{loaded}")
    return answer


def sized(inputs, relays):
    """The text of a scheme with so many inputs and relays, each relay at the rail."""
    return lines(*[f"in i{number}" for number in range(inputs)], *[f"relay r{number} at 0" for number in range(relays)])


def drawn(text):
    """The same scheme with its first input's closers turned to openers and openers to closers: a is on of itself."""
    turned = {"open a": "close a", "close a": "open a"}
    return lines(*[turned.get(line[:-4], line[:-4]) + line[-4:] for line in text.split("\n")[:-1]])


class Settles(unittest.TestCase):
    def test_without_anything(self):
        self.assertEqual(ask(play(0), play(1)), [[0, 0], [0, 0]])

    def test_state_0_settles_at_once(self):
        self.assertEqual(played(HOLDS), [0, 0])
        self.assertEqual(played(CHAIN), [0, 0])
        self.assertEqual(played(lines("relay r at 1", "close r 0 1")), [0, 0])

    def test_state_0_settles_by_moves(self):
        self.assertEqual(played(lines("relay r at 0")), [0, R])
        self.assertEqual(played(sized(0, 5)), [0, sum(RELAY[:5])])
        self.assertEqual(played(lines("relay r at 0", "relay s at 1", "relay t at 2", "close r 0 1", "close s 0 2")),
                         [0, R + S + T])
        self.assertEqual(played(drawn(CHAIN)), [0, R + S + T])

    def test_state_0_settles_by_a_relay_that_comes_and_goes(self):
        # s takes r its current and holds itself.
        text = lines("relay r at 1", "relay s at 2", "open s 0 1", "close r 0 2", "close s 0 2")
        self.assertEqual(played(text), [0, S])

    def test_one_operation(self):
        self.assertEqual(played(CHAIN, 0), [0, 0, R + S + T + 1])
        self.assertEqual(played(HOLDS, 0), [0, 0, R + 1])
        self.assertEqual(played(HOLDS, 1), [0, 0, 2])

    def test_operations_one_behind_another(self):
        self.assertEqual(played(HOLDS, 0, 1), [0, 0, R + 1, 3])
        self.assertEqual(played(HOLDS, 1, 0), [0, 0, 2, 3])
        self.assertEqual(played(HOLDS, 1, 0, 1), [0, 0, 2, 3, R + 3 - 2])

    def test_input_turned_twice(self):
        self.assertEqual(played(CHAIN, 0, 0), [0, 0, R + S + T + 1, 0])
        self.assertEqual(played(HOLDS, 0, 0), [0, 0, R + 1, R])
        self.assertEqual(played(HOLDS, 0, 0, 1, 1), [0, 0, R + 1, R, 2, 0])

    def test_operation_comes_when_all_has_settled(self):
        # Turned back at once, a would leave s as it was.
        text = lines("in a", "relay r at 1", "relay s at 2", "close a 0 1", "close r 0 2", "close s 0 2")
        self.assertEqual(played(text, 0, 0), [0, 0, R + S + 1, S])

    def test_operations_behind_moves_of_state_0(self):
        self.assertEqual(played(sized(2, 2), 1, 0, 1), [0, R + S, R + S + 2, R + S + 3, R + S + 1])

    def test_state_0_is_told_even_if_it_comes_again(self):
        self.assertEqual(played(lines("in a"), 0, 0, 0), [0, 0, 1, 0, 1])

    def test_lamps_and_delays_change_nothing(self):
        text = HOLDS.replace("relay r at 2\n", "relay r at 2 up 9 down 65535\nlamp l at 2\nlamp m at 0\n")
        self.assertEqual(played(text, 0, 0, 1), played(HOLDS, 0, 0, 1))

    def test_rests_that_other_states_have_do_not_matter(self):
        # Held by itself r could rest on, too: of state 0 that never comes.
        self.assertEqual(played(lines("in a", "relay r at 1", "close r 0 1"), 0), [0, 0, 1])

    def test_rings_that_never_come_do_not_matter(self):
        self.assertEqual(played(BLINKS, 1, 1), [0, 0, 2, 0])
        self.assertEqual(played(lines("relay r at 0", "relay s at 2", "relay t at 4", "close s 0 3", "open t 3 4")),
                         [0, R])

    def test_moves_in_any_order_to_one_rest(self):
        text = lines("in a", "relay r at 1", "relay s at 1", "relay t at 3", "close a 0 1", "close r 0 2", "close s 2 3")
        self.assertEqual(played(text, 0, 0), [0, 0, R + S + T + 1, 0])

    def test_many_schemes_the_slow_way(self):
        chance = random.Random(13)
        sure = 0
        for seed in range(400):
            inputs, relays = seed % 5, seed % 6
            text = chance_text(4000 + seed, inputs, relays, 6, 3 + seed % 10)
            slow = SlowScheme(text)
            rows = [[chance.randrange(inputs) for number in range(chance.randint(0, 5) if inputs else 0)]
                    for turn in range(10)]
            expected = [slow.play(row) for row in rows]
            sure += sum(len(told) > 2 for told in expected)
            self.assertEqual(ask(load(0, text), *[play(0, row) for row in rows])[1:], expected, text)
        self.assertGreater(sure, 1000)


class NotSure(unittest.TestCase):
    def check(self, text):
        """Check a scheme that is sure until a is turned on, and whose other input does nothing."""
        self.assertEqual(played(text), [0, 0])
        self.assertEqual(played(text, 0), [-5])
        self.assertEqual(played(text, 1), [0, 0, 2])
        self.assertEqual(played(text, 1, 0), [-5])
        self.assertEqual(played(text, 1, 1, 1, 1, 1, 0), [-5])
        self.assertEqual(played(text, 0, 0), [-5])
        self.assertEqual(played(text, 1, 0, 1, 0, 1), [-5])
        self.assertEqual(played(drawn(text)), [-5])
        self.assertEqual(played(drawn(text), 0), [-5])
        self.assertEqual(played(drawn(text), 1), [-5])

    def test_ring(self):
        self.check(BLINKS)
        self.assertEqual(played(lines("relay r at 1", "open r 0 1")), [-5])

    def test_ring_that_comes_behind_other_moves(self):
        # The state that isn't sure lies on no ring itself.
        self.assertEqual(played(lines("relay r at 0", "relay s at 2", "close r 0 1", "open s 1 2")), [-5])

    def test_ring_of_many_states(self):
        self.assertEqual(played(lines("relay r at 1", "relay s at 2", "relay t at 3", "open t 0 1", "close r 0 2",
                                      "close s 0 3")), [-5])

    def test_two_rests(self):
        self.check(RACES)
        self.assertEqual(played(lines("relay r at 0", "relay s at 1", "open r 0 1", "close s 0 1")), [-5])

    def test_three_rests(self):
        self.assertEqual(played(lines("relay r at 1", "relay s at 2", "open s 0 1", "close r 0 1", "open r 0 2",
                                      "close s 0 2")), [-5])

    def test_rest_that_comes_by_two_relays_at_once_alone(self):
        # Either of r and s that comes first brings t, which holds itself and takes r and s their current; if both
        # come at once, they hold themselves without t.
        text = lines("relay r at 2", "relay s at 3", "relay t at 4", "open t 0 1", "open s 1 2", "close r 1 2",
                     "open r 1 3", "close s 1 3", "close t 0 4", "close r 0 5", "open s 4 5", "close s 0 6", "open r 4 6")
        self.assertEqual(played(text), [-5])
        # Where s can't come, just t is left.
        self.assertEqual(played(text.replace("open r 1 3\n", "")), [0, T])

    def test_ring_beside_one_rest(self):
        self.check(ENDS)
        self.assertEqual(played(lines("relay r at 2", "relay s at 0", "open s 0 1", "open r 1 2")), [-5])

    def test_ring_beside_two_rests(self):
        self.assertEqual(played(lines("relay r at 1", "relay s at 2", "open s 0 1", "open r 0 2")), [-5])

    def test_state_behind_the_last_operation_counts(self):
        text = lines("in a", "in b", "relay r at 3", "close a 0 1", "close b 1 2", "open r 2 3")
        self.assertEqual(played(text, 0, 0, 1), [0, 0, 1, 0, 2])
        self.assertEqual(played(text, 0, 0, 1, 0), [-5])


class Refused(unittest.TestCase):
    def test_no_such_cabinet(self):
        for c in (-4294967296, -2, -1, 2, 4294967296):
            self.assertEqual(ask(play(c), load(0, HOLDS), play(c, [0])), [[-1], [0, 0, 0], [-1]])

    def test_no_such_input(self):
        for number in (-4294967296, -1, 2, 16, 4294967296):
            for inputs in ([number], [0, number], [number, 1], [0, 0, number, 0]):
                self.assertEqual(played(HOLDS, *inputs), [-1])
        self.assertEqual(played(HOLDS, 0, 1), [0, 0, R + 1, 3])

    def test_scheme_without_inputs(self):
        self.assertEqual(ask(play(0, [0]), play(1, [-1])), [[-1], [-1]])
        self.assertEqual(played(lines("relay r at 0", "lamp l at 1"), 0), [-1])

    def test_last_of_sixteen_inputs(self):
        self.assertEqual(played(sized(16, 0), 15, 0), [0, 0, 32768, 32769])
        self.assertEqual(played(sized(16, 0), 16), [-1])
        self.assertEqual(played(sized(15, 0), 15), [-1])

    def test_number_of_operations(self):
        self.assertEqual(played(lines("in a"), *[0] * 64), [0] + [0, 1] * 32 + [0])
        self.assertEqual(played(lines("in a"), *[0] * 65), [-1])
        self.assertEqual(played(lines("in a"), *[0] * 1000), [-1])
        self.assertEqual(played(CHAIN, *[0] * 64), [0] + [0, R + S + T + 1] * 32 + [0])

    def test_number_of_relays(self):
        self.assertEqual(played(sized(1, 5), 0), [0, sum(RELAY[:5]), sum(RELAY[:5]) + 1])
        self.assertEqual(played(sized(1, 6), 0), [-9])
        self.assertEqual(played(sized(0, 6)), [-9])
        self.assertEqual(played(sized(0, 12)), [-9])

    def test_more_than_eight_inputs_and_relays(self):
        relays = sum(RELAY[:5])
        self.assertEqual(played(sized(4, 5), 3), [0, relays, relays + 8])
        self.assertEqual(played(sized(9, 0), 8), [0, 0, 256])
        self.assertEqual(played(sized(16, 5), 15, 2), [0, relays, relays + 32768, relays + 32772])
        rows = [f"in i{number}" for number in range(16)] + [f"relay r{number} at {number + 1}" for number in range(5)]
        text = lines(*rows, *[f"close i{number + 11} 0 {number + 1}" for number in range(5)])
        self.assertEqual(played(text, 11, 15, 11),
                         [0, 0, 2048 + RELAY[0], 34816 + RELAY[0] + RELAY[4], 32768 + RELAY[4]])

    def test_wrong_ahead_of_too_large(self):
        for text in (sized(0, 6), sized(3, 6), sized(16, 12)):
            self.assertEqual(played(text, 16), [-1])
            self.assertEqual(played(text, -1), [-1])
            self.assertEqual(played(text, *[0] * 65), [-1])
            self.assertEqual(last(load(0, text), play(2)), [-1])
            self.assertEqual(played(text), [-9])

    def test_wrong_ahead_of_not_sure(self):
        self.assertEqual(played(BLINKS, 0, 2), [-1])
        self.assertEqual(played(BLINKS, 0, -1), [-1])
        self.assertEqual(played(BLINKS, *[0] * 65), [-1])
        self.assertEqual(played(drawn(BLINKS), 2), [-1])

    def test_too_large_ahead_of_not_sure(self):
        text = lines("relay r at 1", *[f"relay r{number} at 9" for number in range(5)], "open r 0 1")
        self.assertEqual(played(text), [-9])
        self.assertEqual(played(text.replace("relay r4 at 9\n", "")), [-5])

    def test_each_cabinet_for_itself(self):
        told = ask(load(0, CHAIN), load(1, BLINKS), play(0, [0]), play(1, [0]), play(1, [1]), play(0, [1]))
        self.assertEqual(told[2:], [[0, 0, R + S + T + 1], [-5], [0, 0, 2], [-1]])

    def test_play_leaves_the_cabinet_as_it_was(self):
        told = ask(load(0, HOLDS), play(0, [0]), play(0, [0]), play(0), play(0, [2]), play(0, [0]))
        self.assertEqual(told[1:], [[0, 0, R + 1], [0, 0, R + 1], [0, 0], [-1], [0, 0, R + 1]])
        self.assertEqual(last(load(0, BLINKS), play(0, [0]), reach(0)), last(load(0, BLINKS), reach(0)))


if __name__ == "__main__":
    unittest.main()
