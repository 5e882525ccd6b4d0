"""Calls written out, answers taken apart, and a slow second way to find the same answers."""

import functools
import random
import re

from relaycabinets.cabinets import answers

RELAY = [1 << 16 + number for number in range(12)]

NUMBER = "(?:0|[1-9][0-9]*)"
NAME = "[a-z][a-z0-9]{0,11}"
SHAPES = (
    re.compile(f"in (?P<name>{NAME})"),
    re.compile(f"relay (?P<name>{NAME}) at (?P<node>{NUMBER})(?: up (?P<up>{NUMBER}))?(?: down (?P<down>{NUMBER}))?"),
    re.compile(f"lamp (?P<name>{NAME}) at (?P<node>{NUMBER})"),
    re.compile(f"(?P<kind>open|close) (?P<name>{NAME}) (?P<low>{NUMBER}) (?P<high>{NUMBER})"),
)


def load(c, text):
    """The call load; a text may be given as a str or as a list of bytes."""
    data = list(text.encode("latin-1")) if isinstance(text, str) else list(text)
    return [1, c, len(data)] + data


def reach(c):
    return [2, c]


def when(c, on=0, off=0, live=(), dead=()):
    return [3, c, on, off, len(live)] + list(live) + [len(dead)] + list(dead)


def count(c, on=0, off=0, live=(), dead=()):
    return [4, c, on, off, len(live)] + list(live) + [len(dead)] + list(dead)


def play(c, inputs=()):
    return [5, c, len(inputs)] + list(inputs)


def alike():
    return [6]


def joined(calls):
    """The calls, one behind another in one list."""
    return [number for call in calls for number in call]


def ask(*calls):
    """The answers to calls on one new object, a list each."""
    told = answers(joined(calls))
    found = []
    place = 0
    while place < len(told):
        length = told[place]
        if length < 1:
            raise ValueError(f"an answer of {length} numbers")
        found.append(told[place + 1:place + 1 + length])
        place += 1 + length
    if place != len(told) or len(found) != len(calls):
        raise ValueError(f"{len(calls)} calls were answered by {told}")
    return found


def last(*calls):
    """The answer to the last of these calls."""
    return ask(*calls)[-1]


def lines(*parts):
    """A text of these lines, each with its end."""
    return "".join(part + "\n" for part in parts)


def slow_row(line):
    """The sort of a line and what is in it, or None."""
    for sort, shape in enumerate(SHAPES):
        match = shape.fullmatch(line)
        if match and "\n" not in line:
            row = match.groupdict()
            nodes = [int(row[key]) for key in ("node", "low", "high") if row.get(key)]
            ticks = [int(row[key]) for key in ("up", "down") if row.get(key)]
            good = all(node <= 63 for node in nodes) and all(1 <= tick <= 65535 for tick in ticks)
            if good and (sort != 3 or nodes[0] < nodes[1]):
                return sort, row
    return None


def slow_fault(text):
    """The kind and the line of a text's first fault, (0, 0) if it has none."""
    whole = text.split("\n")
    rows = [slow_row(line) for line in whole[:-1]] + [None] * (whole[-1] != "")
    faults = [(1, line) for line, row in enumerate(rows) if row is None]
    if faults:
        return min(faults)
    names = [row["name"] for sort, row in rows if sort < 2]
    for line, (sort, row) in enumerate(rows):
        ahead = rows[:line]
        if any(other > sort for other, found in ahead):
            faults.append((2, line))
        if sum(other == sort for other, found in ahead) == (16, 12, 16, 256)[sort]:
            faults.append((3, line))
        if sort < 3 and any(other < 3 and found["name"] == row["name"] for other, found in ahead):
            faults.append((4, line))
        if sort == 3 and row["name"] not in names:
            faults.append((5, line))
    return min(faults, default=(0, 0))


class SlowScheme:
    """A scheme gone through without haste, of a text that has no fault."""

    def __init__(self, text):
        rows = [slow_row(line) for line in text.split("\n")[:-1]]
        self.names = [row["name"] for sort, row in rows if sort == 0]
        self.relays = [(row["name"], int(row["node"])) for sort, row in rows if sort == 1]
        bits = {name: 1 << number for number, name in enumerate(self.names)}
        bits.update({relay[0]: RELAY[number] for number, relay in enumerate(self.relays)})
        self.contacts = [
            (int(row["low"]), int(row["high"]), row["kind"] == "close", bits[row["name"]])
            for sort, row in rows if sort == 3
        ]
        self.lamps = [int(row["node"]) for sort, row in rows if sort == 2]
        self.moves = {}

    @functools.cached_property
    def best(self):
        return self.best_cases()

    def live(self, state):
        nodes = {0}
        while True:
            more = set(nodes)
            for low, high, closer, bit in self.contacts:
                if bool(state & bit) == closer and (low in nodes or high in nodes):
                    more |= {low, high}
            if more == nodes:
                return nodes
            nodes = more

    def steps(self, state):
        """Pairs of what a step counts as operation, and where it leads."""
        nodes = self.live(state)
        choices = [0]
        for number, (name, node) in enumerate(self.relays):
            if bool(state & RELAY[number]) != (node in nodes):
                choices += [choice | RELAY[number] for choice in choices]
        moves = [(0, state ^ choice) for choice in choices if choice]
        return moves + [(1, state ^ (1 << number)) for number in range(len(self.names))]

    def best_cases(self):
        """For each state that can be (operations, steps, states), mended until nothing is better."""
        best = {0: (0, 0, ())}
        after = {}
        changed = True
        while changed:
            changed = False
            for state in list(best):
                if state not in after:
                    after[state] = self.steps(state)
                operations, steps, states = best[state]
                for cost, other in after[state]:
                    case = (operations + cost, steps + 1, states + (other,))
                    if other not in best or case < best[other]:
                        best[other] = case
                        changed = True
        return best

    def reach(self):
        return [0] + sorted(self.best)

    def cases_for(self, on=0, off=0, live=(), dead=()):
        """The best case of each state in which it is so."""
        cases = []
        for state, case in self.best.items():
            nodes = self.live(state)
            if state & on == on and not state & off and set(live) <= nodes and not set(dead) & nodes:
                cases.append(case)
        return cases

    def when(self, **wanted):
        cases = self.cases_for(**wanted)
        if not cases:
            return [-5]
        operations, steps, states = min(cases)
        return [0, operations] + list(states)

    def count(self, **wanted):
        return [0, len(self.cases_for(**wanted))]

    def moved(self, state):
        """The states to which one move leads."""
        if state not in self.moves:
            self.moves[state] = [other for cost, other in self.steps(state) if not cost]
        return self.moves[state]

    def may_come(self, states):
        """What may come of one of these states."""
        come = set(states)
        while True:
            more = come.union(*[self.moved(state) for state in come])
            if more == come:
                return come
            come = more

    def rest(self, state):
        """Where a state settles, None if it isn't sure."""
        come = self.may_come([state])
        if any(other in self.may_come(self.moved(other)) for other in come):
            return None
        rests = [other for other in come if not self.moved(other)]
        return rests[0] if len(rests) == 1 else None

    def play(self, inputs=()):
        told = [self.rest(0)]
        for number in inputs:
            told.append(None if told[-1] is None else self.rest(told[-1] ^ 1 << number))
        return [-5] if None in told else [0] + told

    def shown(self, state):
        return [node in self.live(state) for node in self.lamps]


def slow_why(first, second, pair):
    """Why two slow schemes differ where these are their rests, 0 if they don't."""
    if None in pair:
        return 2 + pair.index(None)
    return int(first.shown(pair[0]) != second.shown(pair[1]))


def slow_alike(first, second):
    """The answer of alike for two slow schemes: rows to pairs of rests, mended until nothing is better."""
    best = {(first.rest(0), second.rest(0)): (0, ())}
    after = {}
    changed = True
    while changed:
        changed = False
        for pair in list(best):
            if pair not in after:
                go_on = range(0 if slow_why(first, second, pair) else len(first.names))
                after[pair] = [(first.rest(pair[0] ^ 1 << number), second.rest(pair[1] ^ 1 << number))
                               for number in go_on]
            length, row = best[pair]
            for number, other in enumerate(after[pair]):
                later = (length + 1, row + (number,))
                if other not in best or later < best[other]:
                    best[other] = later
                    changed = True
    found = [(rows, slow_why(first, second, pair)) for pair, rows in best.items() if slow_why(first, second, pair)]
    if not found:
        return [-5]
    (length, row), why = min(found)
    return [0, why] + list(row)


def chance_text(seed, inputs, relays, nodes, contacts, lamps=0):
    """The text of a scheme of this size, always the same for a seed."""
    chance = random.Random(seed)
    names = [f"i{number}" for number in range(inputs)] + [f"r{number}" for number in range(relays)]
    text = "".join(f"in i{number}\n" for number in range(inputs))
    for number in range(relays):
        text += f"relay r{number} at {chance.randint(1, nodes)}\n"
    for number in range(lamps):
        text += f"lamp l{number} at {chance.randint(1, nodes)}\n"
    for number in range(contacts if names else 0):
        low, high = sorted(chance.sample(range(nodes + 1), 2))
        text += f"{chance.choice(['open', 'close'])} {chance.choice(names)} {low} {high}\n"
    return text
