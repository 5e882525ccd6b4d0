"""Schemes, and the texts that tell them."""

LETTERS = "abcdefghijklmnopqrstuvwxyz"
DIGITS = "0123456789"

# The sorts of lines, in the order in which they stand in a text.
INPUT_LINE = 0
RELAY_LINE = 1
LAMP_LINE = 2
CONTACT_LINE = 3
SHAPELESS = -1

MOST_OF_SORT = (16, 12, 16, 256)
MOST_NODE = 63
MOST_TICKS = 65535
MOST_NAME_SIGNS = 12
MOST_DIGITS = 5

FIRST_RELAY = 16
NO_LINE = -1


class Scheme:
    """How many inputs there are, the nodes of the relays and of the lamps, and the contacts.

    A contact is (node, node, whether it is a closer, variable). Delays are not kept: any unsettled relay
    may move first, however long it takes.
    """

    def __init__(self, inputs, relays, lamps, contacts):
        self.inputs = inputs
        self.relays = relays
        self.lamps = lamps
        self.contacts = contacts


def empty_scheme():
    """Return the scheme without anything."""
    return Scheme(0, [], [], [])


def read_scheme(text):
    """Return (kind, line, scheme) of a text's bytes: (0, 0, its scheme), or its first fault and None."""
    rows = rows_of(text)
    for kind, finder in enumerate(FAULT_FINDERS, start=1):
        line = finder(rows)
        if line != NO_LINE:
            return (kind, line, None)
    return (0, 0, scheme_of(rows))


def sign_of(byte):
    """Return the sign that a byte stands for, "?" for all those that no line of a scheme has."""
    if byte == 10:
        return "\n"
    if byte == 32:
        return " "
    if 48 <= byte <= 57:
        return DIGITS[byte - 48]
    if 97 <= byte <= 122:
        return LETTERS[byte - 97]
    return "?"


def rows_of(text):
    """Return (sort, parts) of each line."""
    lines = "".join([sign_of(byte) for byte in text]).split("\n")
    rows = []
    for line in lines[:-1]:
        parts = line.split(" ")
        rows.append((sort_of(parts), parts))
    # What stands behind the last byte 10 is of no shape, even if it looks like a good line.
    if lines[-1] != "":
        rows.append((SHAPELESS, []))
    return rows


def sort_of(parts):
    """Return the sort of a line of these parts."""
    if len(parts) < 2 or not is_name(parts[1]):
        return SHAPELESS
    word = parts[0]
    if word == "in" and len(parts) == 2:
        return INPUT_LINE
    if word == "relay" and is_place(parts[2:4]) and are_delays(parts[4:]):
        return RELAY_LINE
    if word == "lamp" and is_place(parts[2:]):
        return LAMP_LINE
    if word in ("open", "close") and are_ends(parts[2:]):
        return CONTACT_LINE
    return SHAPELESS


def is_name(word):
    """Tell whether a word may be the name of something."""
    return len(word) <= MOST_NAME_SIGNS and word.isalnum() and word[0].isalpha()


def is_number(word, least, most):
    """Tell whether a word is a number of these bounds, without needless digits."""
    # The length comes first: Python won't turn a very long word into a number.
    if len(word) > MOST_DIGITS or not word.isdigit():
        return False
    if word[0] == "0" and len(word) > 1:
        return False
    return least <= int(word) <= most


def is_node(word):
    """Tell whether a word is a node's number."""
    return is_number(word, 0, MOST_NODE)


def is_place(parts):
    """Tell whether these parts say at which node a coil lies."""
    return len(parts) == 2 and parts[0] == "at" and is_node(parts[1])


def are_delays(parts):
    """Tell whether these parts are a relay's delays, each told or not."""
    rest = parts
    for word in ("up", "down"):
        if len(rest) >= 2 and rest[0] == word and is_number(rest[1], 1, MOST_TICKS):
            rest = rest[2:]
    return rest == []


def are_ends(parts):
    """Tell whether these parts are a contact's two nodes."""
    if len(parts) != 2 or not is_node(parts[0]) or not is_node(parts[1]):
        return False
    return int(parts[0]) < int(parts[1])


def first_shapeless(rows):
    """Return the first line that is of no shape."""
    for line, row in enumerate(rows):
        if row[0] == SHAPELESS:
            return line
    return NO_LINE


def first_misplaced(rows):
    """Return the first line that stands behind one of a later sort."""
    latest = INPUT_LINE
    for line, row in enumerate(rows):
        if row[0] < latest:
            return line
        latest = row[0]
    return NO_LINE


def first_too_many(rows):
    """Return the first line that tells more of its sort than there may be."""
    counts = [0, 0, 0, 0]
    for line, row in enumerate(rows):
        sort = row[0]
        counts[sort] += 1
        if counts[sort] > MOST_OF_SORT[sort]:
            return line
    return NO_LINE


def first_given_again(rows):
    """Return the first line that gives a name which has been given before."""
    given = {}
    for line, row in enumerate(rows):
        name = row[1][1]
        if row[0] != CONTACT_LINE:
            if name in given:
                return line
            given[name] = True
    return NO_LINE


def first_unknown(rows):
    """Return the first line of a contact whose name no input or relay has."""
    variables = variables_of(rows)
    for line, row in enumerate(rows):
        if row[0] == CONTACT_LINE and row[1][1] not in variables:
            return line
    return NO_LINE


# In the order of the kinds of faults: each may rely on it that those ahead of it found nothing.
FAULT_FINDERS = (first_shapeless, first_misplaced, first_too_many, first_given_again, first_unknown)


def parts_of_sort(rows, sort):
    """Return the parts of each line of this sort."""
    return [row[1] for row in rows if row[0] == sort]


def variables_of(rows):
    """Return the variable of each input's and each relay's name."""
    variables = {}
    for number, parts in enumerate(parts_of_sort(rows, INPUT_LINE)):
        variables[parts[1]] = number
    for number, parts in enumerate(parts_of_sort(rows, RELAY_LINE), start=FIRST_RELAY):
        variables[parts[1]] = number
    return variables


def scheme_of(rows):
    """Return the scheme that lines without a fault tell."""
    variables = variables_of(rows)
    relays = [int(parts[3]) for parts in parts_of_sort(rows, RELAY_LINE)]
    lamps = [int(parts[3]) for parts in parts_of_sort(rows, LAMP_LINE)]
    contacts = []
    for parts in parts_of_sort(rows, CONTACT_LINE):
        contacts.append((int(parts[2]), int(parts[3]), parts[0] == "close", variables[parts[1]]))
    return Scheme(len(parts_of_sort(rows, INPUT_LINE)), relays, lamps, contacts)
