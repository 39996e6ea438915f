"""How the tests write calls and read answers, and a second, slower telling of what the document says."""

import re

from relaymoves.scheme import answers

TOLD = [3]
UNSETTLED = [4]
MOVES = [6]


def load(text):
    data = list(text.encode("latin-1")) if isinstance(text, str) else list(text)
    return [1, len(data)] + data


def put(number):
    return [2, number]


def move(*relays):
    return [5, len(relays)] + list(relays)


def split_answers(told):
    parts = []
    start = 0
    while start < len(told):
        length = told[start]
        parts.append(told[start + 1:start + 1 + length])
        start += 1 + length
    return parts


def ask(*calls):
    """The answers to the calls, a list each."""
    flat = [number for call in calls for number in call]
    return split_answers(answers(flat))


def last(*calls):
    return ask(*calls)[-1]


def lines(*rows):
    return "".join(row + "\n" for row in rows)


def on(*variables):
    """The state in which just these variables are on; relay j is variable 16 + j."""
    return sum(1 << variable for variable in variables)


NAME = "[a-z][a-z0-9]{0,11}"
NUMBER = "(0|[1-9][0-9]*)"
SHAPES = (
    re.compile(f"in ({NAME})"),
    re.compile(f"relay ({NAME}) at {NUMBER}(?: up {NUMBER})?(?: down {NUMBER})?"),
    re.compile(f"lamp ({NAME}) at {NUMBER}"),
    re.compile(f"(?:open|close) ({NAME}) {NUMBER} {NUMBER}"),
)


def plain_shape(line):
    """The sort of a line and its name, or None where it is of no shape."""
    for sort, shape in enumerate(SHAPES):
        found = shape.fullmatch(line)
        if found is None:
            continue
        told = [None if part is None else int(part) for part in found.groups()[1:]]
        nodes = told[:1] if sort in (1, 2) else told
        ticks = [part for part in told[1:] if part is not None] if sort == 1 else []
        if any(node > 63 for node in nodes) or any(not 1 <= tick <= 65535 for tick in ticks):
            return None
        if sort == 3 and nodes[0] >= nodes[1]:
            return None
        return sort, found.group(1)
    return None


def plain_fault(text):
    """All faults of a text are gathered, and the least of them is told."""
    rows = text.split("\n")
    shapes = [plain_shape(row) for row in rows[:-1]]
    if rows[-1] != "":
        shapes.append(None)
    faults = [(1, line) for line, shape in enumerate(shapes) if shape is None]
    whole = [(line, shape[0], shape[1]) for line, shape in enumerate(shapes) if shape is not None]
    works = [name for line, sort, name in whole if sort <= 1]
    for place, (line, sort, name) in enumerate(whole):
        ahead = whole[:place]
        if any(before[1] > sort for before in ahead):
            faults.append((2, line))
        if sum(before[1] == sort for before in ahead) >= (16, 12, 16, 256)[sort]:
            faults.append((3, line))
        if sort < 3 and any(before[1] < 3 and before[2] == name for before in ahead):
            faults.append((4, line))
        if sort == 3 and name not in works:
            faults.append((5, line))
    return min(faults, default=(0, 0))


def plain_unsettled(text, state):
    """Passes over all contacts until no further node comes to be live."""
    rows = [row.split(" ") for row in text.splitlines()]
    inputs = [row[1] for row in rows if row[0] == "in"]
    relays = [row[1] for row in rows if row[0] == "relay"]
    variable = {name: place for place, name in enumerate(inputs)}
    variable.update({name: 16 + place for place, name in enumerate(relays)})
    nodes = [int(row[3]) for row in rows if row[0] == "relay"]
    passing = []
    for row in rows:
        if row[0] in ("open", "close") and bool(state >> variable[row[1]] & 1) == (row[0] == "close"):
            passing.append({int(row[2]), int(row[3])})
    live = {0}
    while True:
        wider = live.union(*[pair for pair in passing if pair & live])
        if wider == live:
            break
        live = wider
    return [relay for relay, node in enumerate(nodes) if (node in live) != bool(state >> 16 + relay & 1)]


def plain_moves(text, state):
    unsettled = plain_unsettled(text, state)
    found = []
    for choice in range(1, 1 << len(unsettled)):
        turned = [16 + relay for place, relay in enumerate(unsettled) if choice >> place & 1]
        found.append(state ^ on(*turned))
    return sorted(found)


def random_scheme(source, relays):
    inputs = source.randrange(1, 17)
    last_node = source.choice((3, 8, 63))
    names = [f"a{count}" for count in range(inputs)] + [f"r{count}" for count in range(relays)]
    rows = [f"in {name}" for name in names[:inputs]]
    rows += [f"relay {name} at {source.randint(0, last_node)}" for name in names[inputs:]]
    for count in range(source.choice((0, 5, 20, 100, 256))):
        nodes = sorted(source.sample(range(last_node + 1), 2))
        rows.append(f"{source.choice(('open', 'close'))} {source.choice(names)} {nodes[0]} {nodes[1]}")
    return lines(*rows)
