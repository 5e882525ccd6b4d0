"""The calls on two cabinets, and their answers."""

from relaycabinets.cases import Wanted, case_for, states_that_can_be
from relaycabinets.schemes import MOST_NODE, empty_scheme, read_scheme

LOAD = 1
REACH = 2
WHEN = 3

WRONG = -1
TOO_LARGE = -9
NEVER = -5

MOST_BYTES = 20000
MOST_BITS = 4294967295
MOST_RELAYS = 5
MOST_VARIABLES = 8


class UnknownCall(ValueError):
    """There is no call of this number."""


class Reader:
    """Takes the numbers of a list one behind another, and leaves the list as it is."""

    def __init__(self, numbers):
        self.numbers = numbers
        self.place = 0

    def is_at_end(self):
        """Tell whether all numbers are taken."""
        return self.place == len(self.numbers)

    def take_number(self):
        """Take one number."""
        number = self.numbers[self.place]
        self.place += 1
        return number

    def take_row(self):
        """Take a row, which has ahead of it how many numbers it has."""
        length = self.take_number()
        row = self.numbers[self.place:self.place + length]
        self.place += length
        return row

    def take_wanted(self):
        """Take what is wanted."""
        on = self.take_number()
        off = self.take_number()
        live = self.take_row()
        dead = self.take_row()
        return Wanted(on, off, live, dead)


def answers(calls):
    """Return the answers to a list of calls on two new cabinets, each behind how many numbers it has."""
    cabinets = [empty_scheme(), empty_scheme()]
    reader = Reader(calls)
    answered = []
    while not reader.is_at_end():
        answer = answer_of(cabinets, reader)
        answered.append(len(answer))
        answered.extend(answer)
    return answered


def answer_of(cabinets, reader):
    """Take one call and return its answer."""
    call = reader.take_number()
    if call == LOAD:
        c = reader.take_number()
        return load(cabinets, c, reader.take_row())
    if call == REACH:
        return reach(cabinets, reader.take_number())
    if call == WHEN:
        c = reader.take_number()
        return when(cabinets, c, reader.take_wanted())
    raise UnknownCall(f"there is no call {call}")


def load(cabinets, c, text):
    """Give a cabinet the scheme of a text, if it is one."""
    if not is_cabinet(c) or len(text) > MOST_BYTES:
        return [WRONG]
    kind, line, scheme = read_scheme(text)
    if scheme is not None:
        cabinets[c] = scheme
    return [0, kind, line]


def reach(cabinets, c):
    """Answer the states that can be."""
    if not is_cabinet(c):
        return [WRONG]
    if is_too_large(cabinets[c]):
        return [TOO_LARGE]
    return [0] + states_that_can_be(cabinets[c])


def when(cabinets, c, wanted):
    """Answer the case told for what is wanted: its operations, then its states."""
    if not is_cabinet(c) or not may_be_wanted(wanted):
        return [WRONG]
    if is_too_large(cabinets[c]):
        return [TOO_LARGE]
    case = case_for(cabinets[c], wanted)
    if case is None:
        return [NEVER]
    return [0, case[0]] + case[2:]


def is_cabinet(c):
    """Tell whether there is such a cabinet."""
    return c in (0, 1)


def may_be_wanted(wanted):
    """Tell whether the bits and the nodes lie within their bounds."""
    if not 0 <= wanted.on <= MOST_BITS or not 0 <= wanted.off <= MOST_BITS:
        return False
    return all([0 <= node <= MOST_NODE for node in wanted.live + wanted.dead])


def is_too_large(scheme):
    """Tell whether a scheme has too many states to go through all."""
    relays = len(scheme.relays)
    return relays > MOST_RELAYS or scheme.inputs + relays > MOST_VARIABLES
