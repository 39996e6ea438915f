"""Reads a scheme's text: its lines, and the first fault of a text that is no scheme's."""

# The sorts of lines, in the order in which they stand in a text.
INPUT = 0
RELAY = 1
LAMP = 2
CONTACT = 3

# How many lines of each sort a text may have.
ROOM = (16, 12, 16, 256)

# The kinds of faults; a fault is a kind and a line.
NO_SHAPE = 1
OUT_OF_ORDER = 2
TOO_MANY = 3
NAME_AGAIN = 4
NAME_UNKNOWN = 5
NO_FAULT = (0, 0)

LINE_END = 10
BLANK = 32
LETTERS = "abcdefghijklmnopqrstuvwxyz"
DIGITS = "0123456789"
FIRST_LETTER = 97
FIRST_DIGIT = 48

LONGEST_NAME = 12
LONGEST_NUMBER = 5
GREATEST_NODE = 63
GREATEST_TICKS = 65535


# What one line tells. Delays are checked but not kept, since no call asks for them.
class Entry:
    def __init__(self, rank, name, nodes, closes):
        self.rank = rank
        self.name = name
        self.nodes = nodes
        self.closes = closes


# The sign of a byte; all that stand in no well-shaped line are shown as one that doesn't either.
def sign_of(byte):
    if byte == BLANK:
        return " "
    if FIRST_LETTER <= byte < FIRST_LETTER + len(LETTERS):
        return LETTERS[byte - FIRST_LETTER]
    if FIRST_DIGIT <= byte < FIRST_DIGIT + len(DIGITS):
        return DIGITS[byte - FIRST_DIGIT]
    return "?"


# For each line of the text its entry, or None where the line is of no shape.
def entries_of(text):
    entries = []
    signs = []
    for byte in text:
        if byte == LINE_END:
            entries.append(entry_of("".join(signs)))
            signs = []
        else:
            signs.append(sign_of(byte))
    # A line that byte 10 doesn't end is of no shape, whatever it says.
    if len(signs) > 0:
        entries.append(None)
    return entries


def entry_of(line):
    parts = line.split(" ")
    word = parts[0]
    if word == "in":
        return input_entry(parts)
    if word == "relay":
        return relay_entry(parts)
    if word == "lamp":
        return lamp_entry(parts)
    if word == "open" or word == "close":
        return contact_entry(parts)
    return None


def input_entry(parts):
    if len(parts) != 2 or not is_name(parts[1]):
        return None
    return Entry(INPUT, parts[1], (), False)


def relay_entry(parts):
    if not is_coil(parts[:4]) or not are_delays(parts[4:]):
        return None
    return Entry(RELAY, parts[1], (node_of(parts[3]),), False)


def lamp_entry(parts):
    if not is_coil(parts):
        return None
    return Entry(LAMP, parts[1], (node_of(parts[3]),), False)


def contact_entry(parts):
    if len(parts) != 4 or not is_name(parts[1]):
        return None
    lesser = node_of(parts[2])
    greater = node_of(parts[3])
    if lesser < 0 or greater <= lesser:
        return None
    return Entry(CONTACT, parts[1], (lesser, greater), parts[0] == "close")


# Whether the parts are a word, a name, at, a node.
def is_coil(parts):
    return len(parts) == 4 and is_name(parts[1]) and parts[2] == "at" and node_of(parts[3]) >= 0


# Whether the parts are perhaps up and ticks, then perhaps down and ticks, and nothing else.
def are_delays(parts):
    rest = parts
    for word in ("up", "down"):
        # Ticks of 0 are not told, so a 0 here is as wrong as no number.
        if len(rest) >= 2 and rest[0] == word and number_of(rest[1], GREATEST_TICKS) > 0:
            rest = rest[2:]
    return len(rest) == 0


def is_name(part):
    if part == "" or len(part) > LONGEST_NAME or part[0] not in LETTERS:
        return False
    for sign in part:
        if sign not in LETTERS and sign not in DIGITS:
            return False
    return True


def node_of(part):
    return number_of(part, GREATEST_NODE)


# The number that the part tells, or -1 if it tells none from 0 to the greatest.
def number_of(part, greatest):
    # The length is looked at first because Python won't read a number of some thousand digits.
    if len(part) > LONGEST_NUMBER or not part.isdigit():
        return -1
    if part[0] == "0" and part != "0":
        return -1
    number = int(part)
    if number > greatest:
        return -1
    return number


# The least kind of fault and the first line that has it, or 0 and 0 where there is no fault.
def first_fault(entries):
    line = line_of_no_shape(entries)
    # The other kinds are looked for only here behind, where every line has an entry.
    if line >= 0:
        return (NO_SHAPE, line)
    line = line_out_of_order(entries)
    if line >= 0:
        return (OUT_OF_ORDER, line)
    line = line_too_many(entries)
    if line >= 0:
        return (TOO_MANY, line)
    line = line_with_name_again(entries)
    if line >= 0:
        return (NAME_AGAIN, line)
    line = line_with_name_unknown(entries)
    if line >= 0:
        return (NAME_UNKNOWN, line)
    return NO_FAULT


def line_of_no_shape(entries):
    for line, entry in enumerate(entries):
        if entry is None:
            return line
    return -1


def line_out_of_order(entries):
    latest = INPUT
    for line, entry in enumerate(entries):
        if entry.rank < latest:
            return line
        latest = entry.rank
    return -1


def line_too_many(entries):
    counts = [0, 0, 0, 0]
    for line, entry in enumerate(entries):
        counts[entry.rank] += 1
        if counts[entry.rank] > ROOM[entry.rank]:
            return line
    return -1


def line_with_name_again(entries):
    given = {}
    for line, entry in enumerate(entries):
        if entry.rank != CONTACT:
            if entry.name in given:
                return line
            given[entry.name] = True
    return -1


def line_with_name_unknown(entries):
    works = {}
    for line, entry in enumerate(entries):
        if entry.rank == INPUT or entry.rank == RELAY:
            works[entry.name] = True
        if entry.rank == CONTACT and entry.name not in works:
            return line
    return -1
