"""The interface: answers(calls) as a whole."""

import contextlib
import io
import unittest

from relaycabinets.cabinets import answers
from tests.helper import RELAY, alike, ask, count, joined, lines, load, play, reach, when

HOLDS = lines("in a", "in b", "relay r at 2", "close a 0 1", "close r 0 1", "open b 1 2")
LAMP = lines("in a", "lamp l at 1", "close a 0 1")
HELD = lines("in a", "relay r at 1", "lamp l at 1", "close a 0 1", "close r 0 1")
BLINKS = lines("in a", "in b", "relay r at 2", "close a 0 1", "open r 1 2")
R = RELAY[0]


def long_row():
    """Calls of every sort on both cabinets, refusals among them."""
    return joined([
        load(0, HOLDS), load(1, lines("in a")), reach(0), reach(1), when(0, on=R), when(1, on=R), reach(2),
        load(1, "in a\nx\n"), when(1, on=1), load(7, HOLDS), when(0, live=[64], dead=[1, 2, 3]), reach(1),
        count(0, on=R, live=[2]), count(1, off=1), count(0, dead=[0]), count(3), count(0, live=[1], dead=[64]),
        play(0, [0, 0, 1]), play(1, [0]), play(1), play(1, [1]), play(2, [0]), alike(), load(1, lines("in a", "in b")),
        alike(), load(1, BLINKS), alike(), play(1, [0]),
    ])


class Interface(unittest.TestCase):
    def test_answers_stand_one_behind_another(self):
        self.assertEqual(answers(long_row()), [
            3, 0, 0, 0,
            3, 0, 0, 0,
            9, 0, 0, 1, 2, 3, R, R + 1, R + 2, R + 3,
            3, 0, 0, 1,
            4, 0, 1, 1, R + 1,
            1, -5,
            1, -1,
            3, 0, 1, 1,
            3, 0, 1, 1,
            1, -1,
            1, -1,
            3, 0, 0, 1,
            2, 0, 2,
            2, 0, 1,
            2, 0, 0,
            1, -1,
            1, -1,
            5, 0, 0, R + 1, R, 2,
            3, 0, 0, 1,
            2, 0, 0,
            1, -1,
            1, -1,
            1, -9,
            3, 0, 0, 0,
            1, -5,
            3, 0, 0, 0,
            3, 0, 3, 0,
            1, -5,
        ])

    def test_all_six_on_both_cabinets(self):
        for c in (0, 1):
            told = ask(load(c, LAMP), load(1 - c, HELD), reach(c), reach(1 - c), when(c, live=[1]), when(1 - c, on=R, off=1),
                       count(c, live=[1]), count(1 - c, live=[1]), play(c, [0, 0]), play(1 - c, [0, 0]), alike())
            self.assertEqual(told, [
                [0, 0, 0], [0, 0, 0], [0, 0, 1], [0, 0, 1, R, R + 1], [0, 1, 1], [0, 2, 1, R + 1, R], [0, 1], [0, 3],
                [0, 0, 1, 0], [0, 0, R + 1, R], [0, 1, 0, 0],
            ])

    def test_load_between_other_calls(self):
        calls = [reach(0), when(0, on=1), count(0), play(0, [0]), alike()]
        told = ask(*calls, load(0, LAMP), *calls, load(1, LAMP), *calls, load(0, HELD), *calls, load(0, BLINKS), *calls)
        without = [[0, 0], [-5], [0, 1], [-1]]
        lamp = [[0, 0, 1], [0, 1, 1], [0, 2], [0, 0, 1]]
        held = [[0, 0, 1, R, R + 1], [0, 1, 1], [0, 4], [0, 0, R + 1]]
        blinks = [[0, 0, 1, 2, 3, R, R + 1, R + 2, R + 3], [0, 1, 1], [0, 8], [-5]]
        loaded = [[0, 0, 0]]
        self.assertEqual(told, without + [[-5]] + loaded + lamp + [[-9]] + loaded + lamp + [[-5]] + loaded
                         + held + [[0, 1, 0, 0]] + loaded + blinks + [[-9]])

    def test_refusals_between_calls_change_nothing(self):
        loads = [load(0, HELD), load(1, LAMP)]
        calls = [reach(0), reach(1), when(0, on=R), count(1), play(0, [0, 0]), play(1, [0]), alike()]
        refused = [load(2, LAMP), load(0, [10] * 20001), load(1, "x"), reach(-1), when(0, on=-1), when(0, dead=[0]),
                   count(1, live=[64]), play(0, [1]), play(1, [0] * 65)]
        before = ask(*loads, *calls)[2:]
        for refusal in refused:
            told = ask(*loads, *[part for call in calls for part in (refusal, call)])[2:]
            self.assertEqual(told[1::2], before)
            self.assertNotIn([0, 0, 0], told[::2])

    def test_single_calls(self):
        self.assertEqual(answers([2, 0]), [2, 0, 0])
        self.assertEqual(answers([2, 9]), [1, -1])
        self.assertEqual(answers([3, 1, 0, 0, 0, 0]), [2, 0, 0])
        self.assertEqual(answers([1, 0, 0]), [3, 0, 0, 0])
        self.assertEqual(answers([1, 0, 5, 105, 110, 32, 97, 10]), [3, 0, 0, 0])
        self.assertEqual(answers([4, 0, 0, 0, 0, 0]), [2, 0, 1])
        self.assertEqual(answers([4, 1, 1, 0, 0, 0]), [2, 0, 0])
        self.assertEqual(answers([4, 2, 0, 0, 0, 0]), [1, -1])
        self.assertEqual(answers([5, 1, 0]), [2, 0, 0])
        self.assertEqual(answers([5, 0, 1, 0]), [1, -1])
        self.assertEqual(answers([6]), [1, -5])

    def test_rows_of_refused_calls_are_passed_over(self):
        self.assertEqual(answers([1, 5, 3, 2, 0, 2] + [3, -1, 2, 0, 2, 2, 0, 1, 2] + [2, 1]), [1, -1, 1, -1, 2, 0, 0])
        self.assertEqual(answers(load(0, [2] * 20001) + reach(0)), [1, -1, 2, 0, 0])
        self.assertEqual(answers([4, -1, 2, 0, 2, 6, 6, 1, 6] + [2, 1]), [1, -1, 2, 0, 0])
        self.assertEqual(answers([5, 4, 3, 6, 6, 6] + [5, 0, 2, 6, 2] + [2, 1]), [1, -1, 1, -1, 2, 0, 0])
        self.assertEqual(answers(play(0, [6] * 1000) + alike()), [1, -1, 1, -5])

    def test_order_of_arguments(self):
        calls = load(0, lines("in a", "in b", "close a 0 1", "close b 0 2"))
        self.assertEqual(answers(calls + [3, 0, 1, 2, 0, 0])[4:], [3, 0, 1, 1])
        self.assertEqual(answers(calls + [3, 0, 2, 1, 0, 0])[4:], [3, 0, 1, 2])
        self.assertEqual(answers(calls + [3, 0, 0, 0, 1, 2, 1, 1])[4:], [3, 0, 1, 2])
        self.assertEqual(answers(calls + [3, 0, 0, 0, 0, 2, 1, 2])[4:], [2, 0, 0])
        calls = load(0, lines("in a", "in b", "relay r at 1", "close a 0 1", "close r 0 1"))
        self.assertEqual(answers(calls + [4, 0, R, 1, 0, 0])[4:], [2, 0, 2])
        self.assertEqual(answers(calls + [4, 0, 1, R, 0, 0])[4:], [2, 0, 2])
        self.assertEqual(answers(calls + [4, 0, 2, 0, 1, 1, 0])[4:], [2, 0, 3])
        self.assertEqual(answers(calls + [4, 0, 0, 2, 0, 1, 1])[4:], [2, 0, 1])

    def test_what_is_handed_in_stays_as_it_is(self):
        calls = long_row()
        before = list(calls)
        answers(calls)
        self.assertEqual(calls, before)

    def test_what_is_handed_in_is_not_changed_for_a_while_either(self):
        class Watched(list):
            def refuse(self, *args, **kwargs):
                raise AssertionError("changed")

            append = extend = insert = pop = remove = clear = sort = reverse = refuse
            __setitem__ = __delitem__ = __iadd__ = __imul__ = refuse

        self.assertEqual(answers(Watched(long_row())), answers(long_row()))

    def test_nothing_is_kept(self):
        first = answers(long_row())
        self.assertEqual(answers(long_row()), first)
        self.assertEqual(answers(reach(0) + reach(1)), [2, 0, 0, 2, 0, 0])
        first.clear()
        self.assertEqual(answers(long_row())[:4], [3, 0, 0, 0])

    def test_answer_is_a_list_of_whole_numbers(self):
        told = answers(long_row())
        self.assertIs(type(told), list)
        self.assertEqual({type(number) for number in told}, {int})

    def test_nothing_is_printed(self):
        with contextlib.redirect_stdout(io.StringIO()) as out, contextlib.redirect_stderr(io.StringIO()) as err:
            answers(long_row())
        self.assertEqual((out.getvalue(), err.getvalue()), ("", ""))

    def test_forty_calls(self):
        calls = load(0, HOLDS) + when(0, on=R) * 39
        self.assertEqual(answers(calls), [3, 0, 0, 0] + [4, 0, 1, 1, R + 1] * 39)
        calls = load(0, HELD) + load(1, LAMP) + (play(0, [0]) + alike()) * 19
        self.assertEqual(answers(calls), [3, 0, 0, 0] * 2 + ([3, 0, 0, R + 1] + [4, 0, 1, 0, 0]) * 19)
        self.assertEqual(answers(alike() * 40), [1, -5] * 40)

    def test_forty_calls_on_the_largest_scheme(self):
        rows = [f"in i{number}" for number in range(3)] + [f"relay r{number} at {number + 1}" for number in range(5)]
        names = [row.split(" ")[1] for row in rows]
        for number in range(256):
            rows.append(f"{('open', 'close')[number % 3 % 2]} {names[number % 8]} {number % 31} {31 + number % 32}")
        rows[8:13] = [f"open r{number} 0 {number + 1}" for number in range(5)]
        told = answers(load(0, lines(*rows)) + when(0, dead=[0]) * 38 + reach(0))
        self.assertEqual(told[:4 + 2 * 38], [3, 0, 0, 0] + [1, -5] * 38)
        self.assertEqual(told[4 + 2 * 38:6 + 2 * 38], [257, 0])

    def test_forty_calls_that_compare_the_largest_schemes(self):
        rows = [f"in i{number}" for number in range(8)] + [f"lamp l{number} at {number}" for number in range(16)]
        rows += [f"close i{number % 8} {number % 40} {41 + number % 20}" for number in range(256)]
        told = answers(load(0, lines(*rows)) + load(1, lines(*rows)) + alike() * 38)
        self.assertEqual(told, [3, 0, 0, 0] * 2 + [1, -5] * 38)

    def test_longest_plays(self):
        rows = [f"in i{number}" for number in range(16)] + [f"relay r{number} at 1" for number in range(5)]
        rows += [f"close i{number} 0 1" for number in range(16)] + ["open r0 2 3"] * 240
        told = answers(load(0, lines(*rows)) + play(0, list(range(16)) * 4) * 10)
        relays = sum(RELAY[:5])
        on = [relays + (1 << number + 1) - 1 for number in range(16)]
        off = [relays + 65536 - (1 << number + 1) for number in range(15)] + [0]
        self.assertEqual(told, [3, 0, 0, 0] + ([66, 0, 0] + on + off + on + off) * 10)

    def test_long_texts_of_short_lines_and_one_long_line(self):
        self.assertEqual(answers(load(0, [10] * 20000)), [3, 0, 1, 0])
        self.assertEqual(answers(load(0, [32] * 20000)), [3, 0, 1, 0])
        self.assertEqual(answers(load(0, lines("lamp a at " + "1" * 19000))), [3, 0, 1, 0])


if __name__ == "__main__":
    unittest.main()
