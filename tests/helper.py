"""How the tests write calls and read answers, and a second, slower telling of what the document says."""

import re

from relaymoves.scheme import answers

TOLD = [3]
UNSETTLED = [4]
MOVES = [6]
COME = [7]
RESTS = [8]
FATE = [9]
RING = [11]
ALL = [12]


def load(text):
    data = list(text.encode("latin-1")) if isinstance(text, str) else list(text)
    return [1, len(data)] + data


def put(number):
    return [2, number]


def move(*relays):
    return [5, len(relays)] + list(relays)


def course(number):
    return [10, number]


def split_answers(told):
    parts = []
    start = 0
    while start < len(told):
        length = told[start]
        parts.append(told[start + 1:start + 1 + length])
        start += 1 + length
    return parts


def ask(*calls):
    """The answers to the calls, a list each."""
    flat = [number for call in calls for number in call]
    return split_answers(answers(flat))


def last(*calls):
    return ask(*calls)[-1]


def lines(*rows):
    return "".join(row + "\n" for row in rows)


def on(*variables):
    """The state in which just these variables are on; relay j is variable 16 + j."""
    return sum(1 << variable for variable in variables)


NAME = "[a-z][a-z0-9]{0,11}"
NUMBER = "(0|[1-9][0-9]*)"
SHAPES = (
    re.compile(f"in ({NAME})"),
    re.compile(f"relay ({NAME}) at {NUMBER}(?: up {NUMBER})?(?: down {NUMBER})?"),
    re.compile(f"lamp ({NAME}) at {NUMBER}"),
    re.compile(f"(?:open|close) ({NAME}) {NUMBER} {NUMBER}"),
)


def plain_shape(line):
    """The sort of a line and its name, or None where it is of no shape."""
    for sort, shape in enumerate(SHAPES):
        found = shape.fullmatch(line)
        if found is None:
            continue
        told = [None if part is None else int(part) for part in found.groups()[1:]]
        nodes = told[:1] if sort in (1, 2) else told
        ticks = [part for part in told[1:] if part is not None] if sort == 1 else []
        if any(node > 63 for node in nodes) or any(not 1 <= tick <= 65535 for tick in ticks):
            return None
        if sort == 3 and nodes[0] >= nodes[1]:
            return None
        return sort, found.group(1)
    return None


def plain_fault(text):
    """All faults of a text are gathered, and the least of them is told."""
    rows = text.split("\n")
    shapes = [plain_shape(row) for row in rows[:-1]]
    if rows[-1] != "":
        shapes.append(None)
    faults = [(1, line) for line, shape in enumerate(shapes) if shape is None]
    whole = [(line, shape[0], shape[1]) for line, shape in enumerate(shapes) if shape is not None]
    works = [name for line, sort, name in whole if sort <= 1]
    for place, (line, sort, name) in enumerate(whole):
        ahead = whole[:place]
        if any(before[1] > sort for before in ahead):
            faults.append((2, line))
        if sum(before[1] == sort for before in ahead) >= (16, 12, 16, 256)[sort]:
            faults.append((3, line))
        if sort < 3 and any(before[1] < 3 and before[2] == name for before in ahead):
            faults.append((4, line))
        if sort == 3 and name not in works:
            faults.append((5, line))
    return min(faults, default=(0, 0))


def plain_unsettled(text, state):
    """Passes over all contacts until no further node comes to be live."""
    rows = [row.split(" ") for row in text.splitlines()]
    inputs = [row[1] for row in rows if row[0] == "in"]
    relays = [row[1] for row in rows if row[0] == "relay"]
    variable = {name: place for place, name in enumerate(inputs)}
    variable.update({name: 16 + place for place, name in enumerate(relays)})
    nodes = [int(row[3]) for row in rows if row[0] == "relay"]
    passing = []
    for row in rows:
        if row[0] in ("open", "close") and bool(state >> variable[row[1]] & 1) == (row[0] == "close"):
            passing.append({int(row[2]), int(row[3])})
    live = {0}
    while True:
        wider = live.union(*[pair for pair in passing if pair & live])
        if wider == live:
            break
        live = wider
    return [relay for relay, node in enumerate(nodes) if (node in live) != bool(state >> 16 + relay & 1)]


def plain_moves(text, state):
    unsettled = plain_unsettled(text, state)
    found = []
    for choice in range(1, 1 << len(unsettled)):
        turned = [16 + relay for place, relay in enumerate(unsettled) if choice >> place & 1]
        found.append(state ^ on(*turned))
    return sorted(found)


def plain_steps(text, state):
    """For each state that may come, those that one move leads to; states are taken up until there is no new one."""
    steps = {}
    new = {state}
    while new:
        steps.update({one: plain_moves(text, one) for one in new})
        new = {later for one in new for later in steps[one]} - set(steps)
    return steps


def plain_layers(steps, state):
    """The states that just 0 moves lead to, just 1 move, just 2 .., up to as many moves as there are states."""
    layers = [{state}]
    while layers[-1] and len(layers) <= len(steps):
        layers.append({later for one in layers[-1] for later in steps[one]})
    return [layer for layer in layers if layer]


def plain_rests(steps):
    return sorted(state for state in steps if not steps[state])


def plain_fate(steps, state):
    # A course of as many moves as there are states comes to one of them twice.
    longest = len(plain_layers(steps, state)) - 1
    ring = longest >= len(steps)
    return [len(plain_rests(steps)), int(ring), 0 if ring else longest]


def plain_way(steps, state, goal):
    """Of all states from which the goal is so and so many moves off, the least is taken, again and again."""
    near = [{goal}]
    while state not in near[-1]:
        near.append({one for one in steps if near[-1] & set(steps[one])})
    way = []
    for layer in reversed(near[:-1]):
        way.append(min(layer & set(steps[way[-1] if way else state])))
    return way


def plain_course(steps, state, goal):
    return [0] + plain_way(steps, state, goal) if goal in steps else [-5]


def plain_ring(steps):
    least = [state for state in sorted(steps) if any(state in layer for layer in plain_layers(steps, state)[1:])][:1]
    if not least:
        return [-5]
    ways = [[later] + plain_way(steps, later, least[0]) for later in steps[least[0]]
            if least[0] in plain_come(steps, later)]
    return [0, least[0]] + min(ways, key=lambda way: (len(way), way))[:-1]


def plain_come(steps, state):
    return set().union(*plain_layers(steps, state))


def plain_all(text, state):
    relays = sum(row.startswith("relay ") for row in text.splitlines())
    alike = [state % 2 ** 16 + (on_relays << 16) for on_relays in range(2 ** relays)]
    return [one for one in alike if not plain_unsettled(text, one)]


def plain_explored(text, state, call):
    """The answer to one of the calls 6 to 12 in the state."""
    if call[0] == 10 and not 0 <= call[1] < 2 ** 32:
        return [-1]
    rows = text.splitlines()
    inputs = sum(row.startswith("in ") for row in rows)
    relays = sum(row.startswith("relay ") for row in rows)
    if relays > 6:
        return [-9]
    if call == MOVES:
        return [0] + plain_moves(text, state)
    if call == ALL:
        return [0] + plain_all(text, state)
    steps = plain_steps(text, state)
    if call == COME:
        return [0] + sorted(steps)
    if call == RESTS:
        return [0] + plain_rests(steps)
    if call == FATE:
        return [0] + plain_fate(steps, state)
    if call == RING:
        return plain_ring(steps)
    own = on(*range(inputs), *range(16, 16 + relays))
    return plain_course(steps, state, call[1] & own)


def random_scheme(source, relays):
    inputs = source.randrange(1, 17)
    last_node = source.choice((3, 8, 63))
    names = [f"a{count}" for count in range(inputs)] + [f"r{count}" for count in range(relays)]
    rows = [f"in {name}" for name in names[:inputs]]
    rows += [f"relay {name} at {source.randint(0, last_node)}" for name in names[inputs:]]
    for count in range(source.choice((0, 5, 20, 100, 256))):
        nodes = sorted(source.sample(range(last_node + 1), 2))
        rows.append(f"{source.choice(('open', 'close'))} {source.choice(names)} {nodes[0]} {nodes[1]}")
    return lines(*rows)


def lively_scheme(source, relays):
    """Few nodes near the rail, worked by the relays mostly, so that many move and hold and break one another."""
    names = ["a"] + [f"r{count}" for count in range(relays)] * 3
    rows = ["in a"] + [f"relay r{count} at {source.randint(1, 5)}" for count in range(relays)]
    for count in range(source.randint(4, 16)):
        lesser = source.choice((0, 0, 1, 2, 3))
        node = source.randint(lesser + 1, 6)
        rows.append(f"{source.choice(('open', 'close'))} {source.choice(names)} {lesser} {node}")
    return lines(*rows)


def relays_at_the_rail(count):
    return load(lines(*[f"relay r{place} at 0" for place in range(count)]))


def gray(count):
    """The states of 6 relays one after another in the order that counting_scheme goes through them."""
    return [(number ^ number >> 1) << 16 for number in range(count)]


def counting_scheme(for_ever):
    """6 relays of which just one at a time is unsettled: 63 moves lead from 0 to on(21), and one more to 0 if for ever.

    In a state relay 0 draws if evenly many of the others are on. Another, j, does as evenly many of those above it
    say where of those below it j - 1 alone is on, and else stays as it is.
    """
    fresh = iter(range(1, 64))
    rows = []
    even = {6: 0}
    odd = {}
    for relay in range(5, 0, -1):
        even[relay] = next(fresh)
        odd[relay] = next(fresh)
        for above, same, other in ((even, even, odd), (odd, odd, even)):
            if relay + 1 in above:
                rows.append(f"open r{relay} {above[relay + 1]} {same[relay]}")
                rows.append(f"close r{relay} {above[relay + 1]} {other[relay]}")
    coils = [even[1]]
    for relay in range(1, 6):
        held = next(fresh)
        way = [next(fresh) for place in range(relay)]
        coils.append(way[-1])
        rows.append(f"close r{relay} 0 {held}")
        before = even[relay + 1]
        for below in range(relay):
            rows.append(f"{'close' if below == relay - 1 else 'open'} r{below} {before} {way[below]}")
            before = way[below]
            if not (for_ever and relay == 5 and below == 4):
                rows.append(f"{'open' if below == relay - 1 else 'close'} r{below} {held} {way[-1]}")
    return lines(*[f"relay r{place} at {coil}" for place, coil in enumerate(coils)], *rows)
