"""The calls on two cabinets, and their answers."""

from relaycabinets.cases import Wanted, case_for, count_of, states_that_can_be
from relaycabinets.comparing import difference_told
from relaycabinets.schemes import MOST_NODE, empty_scheme, read_scheme
from relaycabinets.settling import rests_behind

LOAD = 1
REACH = 2
WHEN = 3
COUNT = 4
PLAY = 5
ALIKE = 6

WRONG = -1
TOO_LARGE = -9
NOT_THERE = -5

MOST_BYTES = 20000
MOST_BITS = 4294967295
MOST_RELAYS = 5
MOST_VARIABLES = 8
MOST_OPERATIONS = 64


class UnknownCall(ValueError):
    """There is no call of this number."""


class Reader:
    """Takes the numbers of a list one behind another, and leaves the list as it is."""

    def __init__(self, numbers):
        self.numbers = numbers
        self.place = 0

    def is_at_end(self):
        """Tell whether all numbers are taken."""
        return self.place == len(self.numbers)

    def take_number(self):
        """Take one number."""
        number = self.numbers[self.place]
        self.place += 1
        return number

    def take_row(self):
        """Take a row, which has ahead of it how many numbers it has."""
        length = self.take_number()
        row = self.numbers[self.place:self.place + length]
        self.place += length
        return row

    def take_wanted(self):
        """Take what is wanted."""
        on = self.take_number()
        off = self.take_number()
        live = self.take_row()
        dead = self.take_row()
        return Wanted(on, off, live, dead)


def answers(calls):
    """Return the answers to a list of calls on two new cabinets, each behind how many numbers it has."""
    cabinets = [empty_scheme(), empty_scheme()]
    reader = Reader(calls)
    answered = []
    while not reader.is_at_end():
        answer = answer_of(cabinets, reader)
        answered.append(len(answer))
        answered.extend(answer)
    return answered


def answer_of(cabinets, reader):
    """Take one call and return its answer."""
    call = reader.take_number()
    if call == LOAD:
        c = reader.take_number()
        return load(cabinets, c, reader.take_row())
    if call == REACH:
        return reach(cabinets, reader.take_number())
    if call == WHEN:
        c = reader.take_number()
        return when(cabinets, c, reader.take_wanted())
    if call == COUNT:
        c = reader.take_number()
        return count(cabinets, c, reader.take_wanted())
    if call == PLAY:
        c = reader.take_number()
        return play(cabinets, c, reader.take_row())
    if call == ALIKE:
        return alike(cabinets)
    raise UnknownCall(f"there is no call {call}")


def load(cabinets, c, text):
    """Give a cabinet the scheme of a text, if it is one."""
    if not is_cabinet(c) or len(text) > MOST_BYTES:
        return [WRONG]
    kind, line, scheme = read_scheme(text)
    if scheme is not None:
        cabinets[c] = scheme
    return [0, kind, line]


def reach(cabinets, c):
    """Answer the states that can be."""
    if not is_cabinet(c):
        return [WRONG]
    if is_too_large(cabinets[c]):
        return [TOO_LARGE]
    return [0] + states_that_can_be(cabinets[c])


def when(cabinets, c, wanted):
    """Answer the case told for what is wanted: its operations, then its states."""
    if not is_cabinet(c) or not may_be_wanted(wanted):
        return [WRONG]
    if is_too_large(cabinets[c]):
        return [TOO_LARGE]
    case = case_for(cabinets[c], wanted)
    if case is None:
        return [NOT_THERE]
    return [0, case[0]] + case[2:]


def count(cabinets, c, wanted):
    """Answer in how many of the states that can be there is what is wanted."""
    if not is_cabinet(c) or not may_be_wanted(wanted):
        return [WRONG]
    if is_too_large(cabinets[c]):
        return [TOO_LARGE]
    return [0, count_of(cabinets[c], wanted)]


def play(cabinets, c, inputs):
    """Answer where state 0 settles, then where it settles behind each input turned."""
    if not is_cabinet(c) or not may_be_turned(cabinets[c], inputs):
        return [WRONG]
    if has_too_many_relays(cabinets[c]):
        return [TOO_LARGE]
    rests = rests_behind(cabinets[c], inputs)
    if rests is None:
        return [NOT_THERE]
    return [0] + rests


def alike(cabinets):
    """Answer the difference told of the two cabinets: why, then the inputs turned."""
    first = cabinets[0]
    second = cabinets[1]
    if not may_be_compared(first, second):
        return [TOO_LARGE]
    difference = difference_told(first, second)
    if difference is None:
        return [NOT_THERE]
    return [0] + difference


def is_cabinet(c):
    """Tell whether there is such a cabinet."""
    return c in (0, 1)


def may_be_wanted(wanted):
    """Tell whether the bits and the nodes lie within their bounds."""
    if not 0 <= wanted.on <= MOST_BITS or not 0 <= wanted.off <= MOST_BITS:
        return False
    return all([0 <= node <= MOST_NODE for node in wanted.live + wanted.dead])


def may_be_turned(scheme, inputs):
    """Tell whether these are inputs of a scheme, and not too many."""
    if len(inputs) > MOST_OPERATIONS:
        return False
    return all([0 <= number < scheme.inputs for number in inputs])


def has_too_many_relays(scheme):
    """Tell whether too many states may come of one."""
    return len(scheme.relays) > MOST_RELAYS


def is_too_large(scheme):
    """Tell whether a scheme has too many states to go through all."""
    return has_too_many_relays(scheme) or scheme.inputs + len(scheme.relays) > MOST_VARIABLES


def may_be_compared(first, second):
    """Tell whether two schemes are of one form outside, and have few enough states between them."""
    if first.inputs != second.inputs or len(first.lamps) != len(second.lamps):
        return False
    if has_too_many_relays(first) or has_too_many_relays(second):
        return False
    return first.inputs + len(first.relays) + len(second.relays) <= MOST_VARIABLES
