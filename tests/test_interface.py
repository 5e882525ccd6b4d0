"""The interface: answers(calls) as a whole."""

import contextlib
import io
import unittest

from relaycabinets.cabinets import answers
from tests.helper import RELAY, joined, lines, load, reach, when

HOLDS = lines("in a", "in b", "relay r at 2", "close a 0 1", "close r 0 1", "open b 1 2")
R = RELAY[0]


def long_row():
    """Calls of every sort on both cabinets, refusals among them."""
    return joined([
        load(0, HOLDS), load(1, lines("in a")), reach(0), reach(1), when(0, on=R), when(1, on=R), reach(2),
        load(1, "in a\nx\n"), when(1, on=1), load(7, HOLDS), when(0, live=[64], dead=[1, 2, 3]), reach(1),
    ])


class Interface(unittest.TestCase):
    def test_answers_stand_one_behind_another(self):
        self.assertEqual(answers(long_row()), [
            3, 0, 0, 0,
            3, 0, 0, 0,
            9, 0, 0, 1, 2, 3, R, R + 1, R + 2, R + 3,
            3, 0, 0, 1,
            4, 0, 1, 1, R + 1,
            1, -5,
            1, -1,
            3, 0, 1, 1,
            3, 0, 1, 1,
            1, -1,
            1, -1,
            3, 0, 0, 1,
        ])

    def test_single_calls(self):
        self.assertEqual(answers([2, 0]), [2, 0, 0])
        self.assertEqual(answers([2, 9]), [1, -1])
        self.assertEqual(answers([3, 1, 0, 0, 0, 0]), [2, 0, 0])
        self.assertEqual(answers([1, 0, 0]), [3, 0, 0, 0])
        self.assertEqual(answers([1, 0, 5, 105, 110, 32, 97, 10]), [3, 0, 0, 0])

    def test_rows_of_refused_calls_are_passed_over(self):
        self.assertEqual(answers([1, 5, 3, 2, 0, 2] + [3, -1, 2, 0, 2, 2, 0, 1, 2] + [2, 1]), [1, -1, 1, -1, 2, 0, 0])
        self.assertEqual(answers(load(0, [2] * 20001) + reach(0)), [1, -1, 2, 0, 0])

    def test_order_of_arguments(self):
        calls = load(0, lines("in a", "in b", "close a 0 1", "close b 0 2"))
        self.assertEqual(answers(calls + [3, 0, 1, 2, 0, 0])[4:], [3, 0, 1, 1])
        self.assertEqual(answers(calls + [3, 0, 2, 1, 0, 0])[4:], [3, 0, 1, 2])
        self.assertEqual(answers(calls + [3, 0, 0, 0, 1, 2, 1, 1])[4:], [3, 0, 1, 2])
        self.assertEqual(answers(calls + [3, 0, 0, 0, 0, 2, 1, 2])[4:], [2, 0, 0])

    def test_what_is_handed_in_stays_as_it_is(self):
        calls = long_row()
        before = list(calls)
        answers(calls)
        self.assertEqual(calls, before)

    def test_what_is_handed_in_is_not_changed_for_a_while_either(self):
        class Watched(list):
            def refuse(self, *args, **kwargs):
                raise AssertionError("changed")

            append = extend = insert = pop = remove = clear = sort = reverse = refuse
            __setitem__ = __delitem__ = __iadd__ = __imul__ = refuse

        self.assertEqual(answers(Watched(long_row())), answers(long_row()))

    def test_nothing_is_kept(self):
        first = answers(long_row())
        self.assertEqual(answers(long_row()), first)
        self.assertEqual(answers(reach(0) + reach(1)), [2, 0, 0, 2, 0, 0])
        first.clear()
        self.assertEqual(answers(long_row())[:4], [3, 0, 0, 0])

    def test_answer_is_a_list_of_whole_numbers(self):
        told = answers(long_row())
        self.assertIs(type(told), list)
        self.assertEqual({type(number) for number in told}, {int})

    def test_nothing_is_printed(self):
        with contextlib.redirect_stdout(io.StringIO()) as out, contextlib.redirect_stderr(io.StringIO()) as err:
            answers(long_row())
        self.assertEqual((out.getvalue(), err.getvalue()), ("", ""))

    def test_forty_calls(self):
        calls = load(0, HOLDS) + when(0, on=R) * 39
        self.assertEqual(answers(calls), [3, 0, 0, 0] + [4, 0, 1, 1, R + 1] * 39)

    def test_forty_calls_on_the_largest_scheme(self):
        rows = [f"in i{number}" for number in range(3)] + [f"relay r{number} at {number + 1}" for number in range(5)]
        names = [row.split(" ")[1] for row in rows]
        for number in range(256):
            rows.append(f"{('open', 'close')[number % 3 % 2]} {names[number % 8]} {number % 31} {31 + number % 32}")
        rows[8:13] = [f"open r{number} 0 {number + 1}" for number in range(5)]
        told = answers(load(0, lines(*rows)) + when(0, dead=[0]) * 38 + reach(0))
        self.assertEqual(told[:4 + 2 * 38], [3, 0, 0, 0] + [1, -5] * 38)
        self.assertEqual(told[4 + 2 * 38:6 + 2 * 38], [257, 0])

    def test_long_texts_of_short_lines_and_one_long_line(self):
        self.assertEqual(answers(load(0, [10] * 20000)), [3, 0, 1, 0])
        self.assertEqual(answers(load(0, [32] * 20000)), [3, 0, 1, 0])
        self.assertEqual(answers(load(0, lines("lamp a at " + "1" * 19000))), [3, 0, 1, 0])


if __name__ == "__main__":
    unittest.main()
