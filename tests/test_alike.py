"""Promise 6: alike."""

import itertools
import random
import unittest

from tests.helper import (RELAY, SlowScheme, alike, ask, chance_text, last, lines, load, play, reach, slow_alike,
                          slow_why)

DARK = lines("in a", "in b", "lamp l at 9")
# While a is on, r lets go as soon as it's on.
BLINKS = lines("in a", "in b", "relay r at 2", "lamp l at 9", "close a 0 1", "open r 1 2")
# While a is on, r and s draw; s rests on if it's as quick as r.
RACES = lines("in a", "in b", "relay r at 1", "relay s at 2", "lamp l at 9", "close a 0 1", "open r 1 2", "close s 1 2")
LAMP_BY_A = lines("in a", "in b", "lamp l at 1", "close a 0 1")
LAMP_BY_B = lines("in a", "in b", "lamp l at 1", "close b 0 1")
# r comes by a and stays; s comes by b when r has come, and stays; the lamp shows s while a is off.
IN_ORDER = lines("in a", "in b", "relay r at 1", "relay s at 3", "lamp l at 5", "close a 0 1", "close r 0 1",
                 "close r 0 2", "close b 2 3", "close s 0 3", "close s 0 4", "open a 4 5")


def compared(first, second):
    """The answer of alike for two texts."""
    told = ask(load(0, first), load(1, second), alike())
    if told[:2] != [[0, 0, 0], [0, 0, 0]]:
        raise ValueError(f"{told}")
    return told[2]


def sized(inputs, relays, lamps=0):
    """The text of a scheme of this size, each relay at the rail and each lamp at node 9."""
    return lines(*[f"in i{number}" for number in range(inputs)], *[f"relay r{number} at 0" for number in range(relays)],
                 *[f"lamp l{number} at 9" for number in range(lamps)])


def with_inputs(number, *rows):
    """The text of a scheme with so many inputs and these lines."""
    return lines(*[f"in i{each}" for each in range(number)], *rows)


class NeverDiffer(unittest.TestCase):
    def test_without_anything(self):
        self.assertEqual(ask(alike()), [[-5]])
        self.assertEqual(compared("", ""), [-5])

    def test_same_scheme_in_both(self):
        texts = [DARK, LAMP_BY_A, IN_ORDER, sized(2, 3, 4), sized(8, 0), sized(0, 4, 16)]
        texts.append(lines("in a", "relay r at 1", "lamp l at 2", "close a 0 1", "close r 0 2"))
        for text in texts:
            self.assertEqual(compared(text, text), [-5])

    def test_without_lamps_where_all_is_sure(self):
        self.assertEqual(compared(sized(2, 1), sized(2, 3)), [-5])

    def test_lamps_of_a_scheme_without_inputs(self):
        self.assertEqual(compared(lines("lamp l at 0"), lines("relay r at 0", "lamp l at 1", "close r 0 1")), [-5])

    def test_other_rests_and_the_same_lamps(self):
        relays = lines("in a", "in b", "relay r at 1", "relay s at 2", "lamp l at 3", "close a 0 1", "close r 0 2",
                       "close s 0 3")
        self.assertEqual(compared(LAMP_BY_A, relays), [-5])
        self.assertEqual(compared(relays, LAMP_BY_A), [-5])
        opposite = lines("in a", "in b", "relay r at 1", "lamp l at 3", "open a 0 1", "open r 0 3")
        self.assertEqual(compared(opposite, relays), [-5])

    def test_lamps_that_differ_on_the_way_alone(self):
        # Behind a the lamp shows until the relay has come.
        text = lines("in a", "in b", "relay r at 1", "lamp l at 2", "close a 0 1", "open r 1 2")
        self.assertEqual(last(load(0, text), play(0, [0, 0])), [0, 0, RELAY[0] + 1, 0])
        self.assertEqual(compared(text, DARK), [-5])
        self.assertEqual(compared(DARK, text), [-5])

    def test_names_do_not_matter(self):
        other = lines("in x", "in l", "lamp a at 7", "close x 0 7")
        self.assertEqual(compared(LAMP_BY_A, other), [-5])
        swapped = lines("in b", "in a", "lamp l at 1", "close b 0 1")
        self.assertEqual(compared(LAMP_BY_A, swapped), [-5])

    def test_lamps_of_other_names(self):
        first = with_inputs(2, "lamp l at 1", "lamp m at 2", "close i0 0 1", "close i1 0 2")
        second = with_inputs(2, "lamp x at 1", "lamp y at 2", "close i0 0 1", "close i1 0 2")
        swapped = with_inputs(2, "lamp m at 1", "lamp l at 2", "close i0 0 1", "close i1 0 2")
        self.assertEqual(compared(first, second), [-5])
        self.assertEqual(compared(first, swapped), [-5])

    def test_states_that_are_not_sure_but_never_come(self):
        # Only behind a state that isn't sure could r be on.
        text = lines("in a", "in b", "relay r at 1", "relay s at 2", "lamp l at 9", "close r 0 1", "close r 0 3",
                     "open s 2 3")
        self.assertEqual(compared(text, DARK), [-5])


class OtherLamps(unittest.TestCase):
    """Why 1."""

    def test_at_state_0(self):
        self.assertEqual(compared(lines("lamp l at 0"), lines("lamp l at 1")), [0, 1])
        self.assertEqual(compared(lines("lamp l at 1"), lines("lamp l at 0")), [0, 1])
        self.assertEqual(compared(DARK, DARK.replace("at 9", "at 0")), [0, 1])
        self.assertEqual(compared(lines("relay r at 0", "lamp l at 1", "close r 0 1"), lines("lamp l at 1")), [0, 1])

    def test_behind_one_operation(self):
        self.assertEqual(compared(LAMP_BY_A, DARK), [0, 1, 0])
        self.assertEqual(compared(DARK, LAMP_BY_A), [0, 1, 0])
        self.assertEqual(compared(LAMP_BY_B, DARK), [0, 1, 1])
        self.assertEqual(compared(LAMP_BY_A, LAMP_BY_B), [0, 1, 0])

    def test_behind_two_operations(self):
        both = lines("in a", "in b", "lamp l at 2", "close a 0 1", "close b 1 2")
        self.assertEqual(compared(both, DARK), [0, 1, 0, 1])
        held = lines("in a", "in b", "relay r at 1", "lamp l at 1", "close a 0 1", "close r 0 1")
        self.assertEqual(compared(held, LAMP_BY_A), [0, 1, 0, 0])

    def test_behind_more_operations(self):
        self.assertEqual(compared(IN_ORDER, DARK), [0, 1, 0, 0, 1])
        self.assertEqual(compared(DARK, IN_ORDER), [0, 1, 0, 0, 1])
        for number in (3, 5, 8):
            rows = [f"close i{each} {each} {each + 1}" for each in range(number)]
            first = with_inputs(number, f"lamp l at {number}", *rows)
            self.assertEqual(compared(first, with_inputs(number, "lamp l at 63")), [0, 1] + list(range(number)))

    def test_each_lamp_counts(self):
        rows = [f"lamp l{number} at {number + 1}" for number in range(16)]
        for lamp in range(16):
            text = with_inputs(1, *rows, f"close i0 0 {lamp + 1}")
            self.assertEqual(compared(text, with_inputs(1, *rows)), [0, 1, 0], lamp)
            self.assertEqual(compared(text, text), [-5], lamp)

    def test_lamps_are_told_apart_by_number(self):
        first = with_inputs(2, "lamp l at 1", "lamp m at 2", "close i0 0 1", "close i1 0 2")
        second = with_inputs(2, "lamp m at 2", "lamp l at 1", "close i0 0 1", "close i1 0 2")
        self.assertEqual(compared(first, second), [0, 1, 0])

    def test_inputs_are_told_apart_by_number(self):
        first = lines("in a", "in b", "lamp l at 1", "close b 0 1")
        second = lines("in b", "in a", "lamp l at 1", "close b 0 1")
        self.assertEqual(compared(first, second), [0, 1, 0])


class NotSure(unittest.TestCase):
    """Why 2 and why 3."""

    def test_at_state_0(self):
        blinks = lines("relay r at 1", "open r 0 1")
        races = lines("relay r at 0", "relay s at 1", "open r 0 1", "close s 0 1")
        for text in (blinks, races):
            self.assertEqual(compared(text, ""), [0, 2])
            self.assertEqual(compared("", text), [0, 3])
            self.assertEqual(compared(text, blinks), [0, 2])
            self.assertEqual(compared(races, text), [0, 2])

    def test_behind_one_operation(self):
        for text in (BLINKS, RACES):
            self.assertEqual(compared(text, DARK), [0, 2, 0])
            self.assertEqual(compared(DARK, text), [0, 3, 0])
            self.assertEqual(compared(text, text), [0, 2, 0])

    def test_both_not_sure(self):
        self.assertEqual(compared(BLINKS, RACES), [0, 2, 0])
        self.assertEqual(compared(RACES, BLINKS), [0, 2, 0])

    def test_not_sure_ahead_of_other_lamps(self):
        self.assertEqual(compared(BLINKS, LAMP_BY_A), [0, 2, 0])
        self.assertEqual(compared(LAMP_BY_A, BLINKS), [0, 3, 0])

    def test_behind_two_operations(self):
        text = lines("in a", "in b", "relay r at 3", "lamp l at 9", "close a 0 1", "close b 1 2", "open r 2 3")
        self.assertEqual(compared(text, DARK), [0, 2, 0, 1])
        self.assertEqual(compared(DARK, text), [0, 3, 0, 1])
        self.assertEqual(compared(text, text), [0, 2, 0, 1])

    def test_behind_more_operations(self):
        text = IN_ORDER.replace("lamp l at 5", "relay t at 6\nlamp l at 9") + lines("open t 5 6")
        self.assertEqual(compared(text, DARK), [0, 2, 0, 0, 1])
        self.assertEqual(compared(DARK, text), [0, 3, 0, 0, 1])

    def test_same_scheme_may_differ_from_itself(self):
        self.assertEqual(compared(BLINKS, BLINKS), [0, 2, 0])

    def test_nothing_goes_on_behind_a_difference(self):
        # Behind a both aren't sure; behind a and b the lamps would differ, too.
        first = BLINKS + lines("close b 0 8", "close a 8 9")
        self.assertEqual(compared(first, BLINKS), [0, 2, 0])


class DifferenceTold(unittest.TestCase):
    def test_fewest_operations_before_lesser_inputs(self):
        first = with_inputs(3, "lamp l at 2", "close i0 0 1", "close i1 1 2", "close i2 0 2")
        self.assertEqual(compared(first, with_inputs(3, "lamp l at 9")), [0, 1, 2])

    def test_fewest_operations_whatever_the_reason(self):
        first = with_inputs(3, "relay r at 3", "lamp l at 5", "close i0 0 1", "close i1 1 2", "open r 2 3", "close i2 0 5")
        self.assertEqual(compared(first, with_inputs(3, "lamp l at 9")), [0, 1, 2])
        first = with_inputs(3, "relay r at 3", "lamp l at 5", "close i0 0 1", "close i1 1 5", "open r 2 3", "close i2 0 2")
        self.assertEqual(compared(first, with_inputs(3, "lamp l at 9")), [0, 2, 2])

    def test_lesser_input(self):
        dark = with_inputs(4, "lamp l at 9")
        self.assertEqual(compared(with_inputs(4, "lamp l at 1", "close i3 0 1", "close i1 0 1"), dark), [0, 1, 1])
        self.assertEqual(compared(with_inputs(4, "lamp l at 1", "close i2 0 1", "close i3 0 1"), dark), [0, 1, 2])

    def test_lesser_input_whatever_the_reason(self):
        dark = with_inputs(3, "lamp l at 9")
        for blinking, shining in ((1, 2), (2, 1)):
            text = with_inputs(3, "relay r at 2", "lamp l at 5", f"close i{blinking} 0 1", "open r 1 2",
                               f"close i{shining} 0 5")
            self.assertEqual(compared(text, dark), [0, 2 if blinking == 1 else 1, 1])
            self.assertEqual(compared(dark, text), [0, 3 if blinking == 1 else 1, 1])

    def test_lesser_input_at_the_first_operation_that_differs(self):
        # Either i0 and i3, or i1 and i2: the greater last input stands behind the lesser first one.
        text = with_inputs(4, "lamp l at 3", "close i0 0 1", "close i3 1 3", "close i1 0 2", "close i2 2 3")
        self.assertEqual(compared(text, with_inputs(4, "lamp l at 9")), [0, 1, 0, 3])

    def test_order_in_which_inputs_must_be_turned(self):
        # r comes by i1 and stays; the lamp needs r and i0 without i1.
        text = with_inputs(2, "relay r at 1", "lamp l at 4", "close i1 0 1", "close r 0 1", "close r 0 2", "close i0 2 3",
                           "open i1 3 4")
        self.assertEqual(compared(text, with_inputs(2, "lamp l at 9")), [0, 1, 0, 1, 1])
        # r comes by i1 while i0 is off, and stays.
        text = with_inputs(2, "relay r at 2", "lamp l at 4", "close i1 0 1", "open i0 1 2", "close r 0 2", "close r 0 3",
                           "close i0 3 4")
        self.assertEqual(compared(text, with_inputs(2, "lamp l at 9")), [0, 1, 1, 0])

    def test_ways_that_meet_and_part_again(self):
        # Both orders of i0 and i1 lead to the same rests: the lesser goes on.
        text = with_inputs(3, "lamp l at 3", "close i0 0 1", "close i1 1 2", "close i2 2 3")
        self.assertEqual(compared(text, with_inputs(3, "lamp l at 9")), [0, 1, 0, 1, 2])

    def test_same_rest_of_one_beside_other_rests_of_the_other(self):
        # The first alone doesn't tell how far they are: the second has what it remembers.
        text = with_inputs(1, "relay r at 1", "relay s at 2", "lamp l at 4", "close i0 0 1", "close r 0 1", "close r 0 3",
                           "open i0 2 3", "close s 0 2", "close s 0 5", "close i0 4 5")
        dark = with_inputs(1, "lamp l at 9")
        self.assertEqual(compared(text, dark), [0, 1, 0, 0, 0])
        self.assertEqual(compared(dark, text), [0, 1, 0, 0, 0])

    def check_by_all_rows(self, first, second):
        """Go through all rows of at most four operations, in order, to the first difference."""
        slow = (SlowScheme(first), SlowScheme(second))
        for length in range(5):
            for row in itertools.product(range(len(slow[0].names)), repeat=length):
                pair = tuple(None if told == [-5] else told[-1] for told in (slow[0].play(row), slow[1].play(row)))
                why = slow_why(*slow, pair)
                if why:
                    self.assertEqual(compared(first, second), [0, why] + list(row), first + second)
                    return why
        told = compared(first, second)
        self.assertTrue(told == [-5] or len(told) > 6, first + second)
        return 0

    def test_many_pairs_by_all_rows(self):
        found = [0, 0, 0, 0]
        for seed in range(120):
            inputs, relays = 1 + seed % 3, seed % 3
            first = chance_text(5000 + seed, inputs, relays, 4, 3 + seed % 5, 1)
            second = chance_text(6000 + seed, inputs, seed % 2, 4, 3 + seed % 4, 1)
            found[self.check_by_all_rows(first, second)] += 1
        self.assertGreater(min(found), 3)

    def test_many_pairs_the_slow_way(self):
        chance = random.Random(14)
        lengths = {}
        for seed in range(600):
            inputs, relays = chance.choice(((1, 3), (2, 3), (2, 2), (3, 2), (4, 2), (2, 1), (3, 1)))
            first = chance_text(7000 + seed, inputs, relays, 6, 5 + seed % 8, 2)
            rows = first.split("\n")[:-1]
            # A little changed, they differ late, if at all.
            place = chance.randrange(inputs + relays + 2, len(rows))
            if seed % 3 == 0:
                rows[place] = {"open": "close", "close": "open"}[rows[place].split(" ")[0]] + rows[place][-7:]
            elif seed % 3 == 1:
                rows.append(f"close r{relays - 1} {chance.randint(0, 2)} {chance.randint(3, 6)}")
            else:
                rows.pop(place)
            second = lines(*rows)
            expected = slow_alike(SlowScheme(first), SlowScheme(second))
            self.assertEqual(compared(first, second), expected, first + second)
            lengths[len(expected)] = lengths.get(len(expected), 0) + 1
        self.assertGreater(min(lengths.get(length, 0) for length in (1, 2, 3, 4)), 10, lengths)


class Refused(unittest.TestCase):
    def test_not_as_many_inputs(self):
        self.assertEqual(compared(sized(1, 0), ""), [-9])
        self.assertEqual(compared("", sized(1, 0)), [-9])
        self.assertEqual(compared(sized(3, 0), sized(2, 1)), [-9])
        self.assertEqual(compared(sized(3, 0), sized(3, 1)), [-5])
        self.assertEqual(compared(sized(1, 2), sized(2, 1)), [-9])

    def test_not_as_many_lamps(self):
        self.assertEqual(compared(sized(1, 0, 1), sized(1, 0)), [-9])
        self.assertEqual(compared(sized(1, 0), sized(1, 0, 1)), [-9])
        self.assertEqual(compared(sized(1, 0, 16), sized(1, 0, 15)), [-9])
        self.assertEqual(compared(sized(1, 0, 16), sized(1, 0, 16)), [-5])

    def test_too_many_relays_in_either(self):
        self.assertEqual(compared(sized(0, 6), ""), [-9])
        self.assertEqual(compared("", sized(0, 6)), [-9])
        self.assertEqual(compared(sized(2, 6), sized(2, 0)), [-9])
        self.assertEqual(compared(sized(2, 0), sized(2, 6)), [-9])
        self.assertEqual(compared(sized(0, 5), ""), [-5])
        self.assertEqual(compared("", sized(0, 5)), [-5])

    def test_inputs_and_relays_of_both_together(self):
        for inputs in range(9):
            for first in range(min(6, 9 - inputs)):
                second = 8 - inputs - first
                if second <= 5:
                    self.assertEqual(compared(sized(inputs, first), sized(inputs, second)), [-5])
                    self.assertEqual(compared(sized(inputs + 1, first), sized(inputs + 1, second)), [-9])
                    self.assertEqual(compared(sized(inputs, first + 1), sized(inputs, second)), [-9])
                    self.assertEqual(compared(sized(inputs, first), sized(inputs, second + 1)), [-9])
        self.assertEqual(compared(sized(16, 0), sized(16, 0)), [-9])

    def test_too_large_ahead_of_a_difference(self):
        self.assertEqual(compared(sized(9, 0) + lines("lamp l at 0"), sized(9, 0) + lines("lamp l at 1")), [-9])
        self.assertEqual(compared(lines("relay r at 1", "lamp l at 0", "open r 0 1"), lines("relay r at 0")), [-9])

    def test_loads_change_the_answer(self):
        told = ask(alike(), load(0, LAMP_BY_A), alike(), load(1, DARK), alike(), load(1, LAMP_BY_A), alike(),
                   load(1, "in"), alike(), load(0, LAMP_BY_B), alike())
        self.assertEqual(told[::2], [[-5], [-9], [0, 1, 0], [-5], [-5], [0, 1, 0]])

    def test_alike_leaves_the_cabinets_as_they_were(self):
        calls = [reach(0), reach(1), play(0, [1]), play(1, [1, 0]), alike()]
        for first, second in ((BLINKS, DARK), (LAMP_BY_A, LAMP_BY_A), (DARK, sized(1, 0))):
            before = ask(load(0, first), load(1, second), *calls)[2:]
            after = ask(load(0, first), load(1, second), alike(), *calls, alike())
            self.assertEqual(after[3:-1], before)
            self.assertEqual([after[2], after[-1]], [before[-1]] * 2)


if __name__ == "__main__":
    unittest.main()
