"""A scheme's inputs, relays and contacts, and what its relays may do in a state."""

from relaymoves.reading import CONTACT, INPUT, RELAY

FIRST_RELAY_VARIABLE = 16
NODES = 64
RAIL = 0


# Inputs, relays and contacts; lamps are left out, since no call asks for them.
class Scheme:
    def __init__(self, entries):
        self.input_count = 0
        self.relay_nodes = []
        self.contacts = []
        variables = {}
        for entry in entries:
            if entry.rank == INPUT:
                variables[entry.name] = self.input_count
                self.input_count += 1
            elif entry.rank == RELAY:
                variables[entry.name] = FIRST_RELAY_VARIABLE + len(self.relay_nodes)
                self.relay_nodes.append(entry.nodes[0])
            elif entry.rank == CONTACT:
                self.contacts.append((entry.nodes[0], entry.nodes[1], entry.closes, variables[entry.name]))


def is_on(state, variable):
    return ((state >> variable) & 1) == 1


def relay_bit(relay):
    return 1 << (FIRST_RELAY_VARIABLE + relay)


def input_bits(scheme, state):
    return state & ((1 << scheme.input_count) - 1)


# The state without the bits of no variable.
def own_bits(scheme, state):
    relays = (1 << len(scheme.relay_nodes)) - 1
    return input_bits(scheme, state) | (state & (relays << FIRST_RELAY_VARIABLE))


# All states of the scheme that have the inputs of this one, rising.
def states_alike(scheme, state):
    inputs = input_bits(scheme, state)
    return [inputs | (relays << FIRST_RELAY_VARIABLE) for relays in range(1 << len(scheme.relay_nodes))]


# For each node the nodes that a contact which lets through joins to it.
def neighbours(scheme, state):
    beside = [[] for node in range(NODES)]
    for lesser, greater, closes, variable in scheme.contacts:
        if is_on(state, variable) == closes:
            beside[lesser].append(greater)
            beside[greater].append(lesser)
    return beside


# For each node whether it is live.
def live_nodes(scheme, state):
    beside = neighbours(scheme, state)
    live = [False for node in range(NODES)]
    live[RAIL] = True
    waiting = [RAIL]
    while len(waiting) > 0:
        node = waiting.pop()
        for other in beside[node]:
            if not live[other]:
                live[other] = True
                waiting.append(other)
    return live


def unsettled_relays(scheme, state):
    live = live_nodes(scheme, state)
    found = []
    for relay, node in enumerate(scheme.relay_nodes):
        if is_on(state, FIRST_RELAY_VARIABLE + relay) != live[node]:
            found.append(relay)
    return found


def is_rest(scheme, state):
    return len(unsettled_relays(scheme, state)) == 0


# The states that one move leads to, rising.
def next_states(scheme, state):
    reached = [state]
    for relay in unsettled_relays(scheme, state):
        bit = relay_bit(relay)
        reached = reached + [earlier ^ bit for earlier in reached]
    # The first is the state itself, with no relay turned, and that is no move.
    return sorted(reached[1:])
