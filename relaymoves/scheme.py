"""A scheme of relays, the state that it is in, and the calls on it."""

from relaymoves.reading import CONTACT, INPUT, NO_FAULT, RELAY, entries_of, first_fault

LOAD = 1
SET = 2
TOLD = 3
UNSETTLED = 4
MOVE = 5
MOVES = 6

BAD_ARGUMENT = -1
NOT_POSSIBLE = -5
TOO_MANY_RELAYS = -9

LONGEST_TEXT = 20000
STATE_LIMIT = 4294967296
MOST_RELAYS_TO_EXPLORE = 6

FIRST_RELAY_VARIABLE = 16
NODES = 64
RAIL = 0


# Inputs, relays and contacts; lamps are left out, since no call asks for them.
class Scheme:
    def __init__(self, entries):
        self.input_count = 0
        self.relay_nodes = []
        self.contacts = []
        variables = {}
        for entry in entries:
            if entry.rank == INPUT:
                variables[entry.name] = self.input_count
                self.input_count += 1
            elif entry.rank == RELAY:
                variables[entry.name] = FIRST_RELAY_VARIABLE + len(self.relay_nodes)
                self.relay_nodes.append(entry.nodes[0])
            elif entry.rank == CONTACT:
                self.contacts.append((entry.nodes[0], entry.nodes[1], entry.closes, variables[entry.name]))


# What the calls work on: a scheme, and the state that it is in.
class Board:
    def __init__(self):
        self.scheme = Scheme([])
        self.state = 0


def is_on(state, variable):
    return ((state >> variable) & 1) == 1


def relay_bit(relay):
    return 1 << (FIRST_RELAY_VARIABLE + relay)


# The state without the bits of no variable.
def own_bits(scheme, state):
    inputs = (1 << scheme.input_count) - 1
    relays = (1 << len(scheme.relay_nodes)) - 1
    return state & (inputs | (relays << FIRST_RELAY_VARIABLE))


# For each node the nodes that a contact which lets through joins to it.
def neighbours(scheme, state):
    beside = [[] for node in range(NODES)]
    for lesser, greater, closes, variable in scheme.contacts:
        if is_on(state, variable) == closes:
            beside[lesser].append(greater)
            beside[greater].append(lesser)
    return beside


# For each node whether it is live.
def live_nodes(scheme, state):
    beside = neighbours(scheme, state)
    live = [False for node in range(NODES)]
    live[RAIL] = True
    waiting = [RAIL]
    while len(waiting) > 0:
        node = waiting.pop()
        for other in beside[node]:
            if not live[other]:
                live[other] = True
                waiting.append(other)
    return live


def unsettled_relays(scheme, state):
    live = live_nodes(scheme, state)
    found = []
    for relay, node in enumerate(scheme.relay_nodes):
        if is_on(state, FIRST_RELAY_VARIABLE + relay) != live[node]:
            found.append(relay)
    return found


# The states that one move leads to, rising.
def next_states(scheme, state):
    reached = [state]
    for relay in unsettled_relays(scheme, state):
        bit = relay_bit(relay)
        reached = reached + [earlier ^ bit for earlier in reached]
    # The first is the state itself, with no relay turned, and that is no move.
    return sorted(reached[1:])


# Whether the relays rise, are all unsettled, and are one at least.
def is_move(relays, unsettled):
    for place, relay in enumerate(relays):
        if relay not in unsettled:
            return False
        if place > 0 and relay <= relays[place - 1]:
            return False
    return len(relays) > 0


def is_state(number):
    return 0 <= number < STATE_LIMIT


def answer_load(board, text):
    if len(text) > LONGEST_TEXT:
        return [BAD_ARGUMENT]
    entries = entries_of(text)
    fault = first_fault(entries)
    if fault == NO_FAULT:
        board.scheme = Scheme(entries)
        board.state = 0
    return [0, fault[0], fault[1]]


def answer_set(board, number):
    if not is_state(number):
        return [BAD_ARGUMENT]
    board.state = own_bits(board.scheme, number)
    return [0, board.state]


def answer_told(board):
    return [0, board.state]


def answer_unsettled(board):
    return [0] + unsettled_relays(board.scheme, board.state)


def answer_move(board, relays):
    if not is_move(relays, unsettled_relays(board.scheme, board.state)):
        return [NOT_POSSIBLE]
    for relay in relays:
        board.state = board.state ^ relay_bit(relay)
    return [0, board.state]


def answer_moves(board):
    if len(board.scheme.relay_nodes) > MOST_RELAYS_TO_EXPLORE:
        return [TOO_MANY_RELAYS]
    return [0] + next_states(board.scheme, board.state)


# How many numbers the call has that begins there.
def call_length(calls, start):
    number = calls[start]
    if number == LOAD or number == MOVE:
        return 2 + calls[start + 1]
    if number == SET:
        return 2
    return 1


def answer_of(board, call):
    number = call[0]
    if number == LOAD:
        return answer_load(board, call[2:])
    if number == SET:
        return answer_set(board, call[1])
    if number == TOLD:
        return answer_told(board)
    if number == UNSETTLED:
        return answer_unsettled(board)
    if number == MOVE:
        return answer_move(board, call[2:])
    if number == MOVES:
        return answer_moves(board)
    raise ValueError(f"no call has the number {number}")


# The answers to the calls on a new object, each with how many numbers it has before it.
def answers(calls):
    board = Board()
    told = []
    start = 0
    while start < len(calls):
        length = call_length(calls, start)
        answer = answer_of(board, calls[start:start + length])
        told.append(len(answer))
        told.extend(answer)
        start += length
    return told
