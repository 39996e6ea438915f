"""The calls on a scheme of relays and the state that it is in."""

from relaymoves.courses import least_ring, longest_courses, rests_among, shortest_courses, steps_from
from relaymoves.reading import NO_FAULT, entries_of, first_fault
from relaymoves.relays import Scheme, is_rest, next_states, own_bits, relay_bit, states_alike, unsettled_relays

LOAD = 1
SET = 2
TOLD = 3
UNSETTLED = 4
MOVE = 5
MOVES = 6
COME = 7
RESTS = 8
FATE = 9
COURSE = 10
RING = 11
ALL = 12

BAD_ARGUMENT = -1
NOT_POSSIBLE = -5
TOO_MANY_RELAYS = -9

LONGEST_TEXT = 20000
STATE_LIMIT = 4294967296
MOST_RELAYS_TO_EXPLORE = 6


# What the calls work on: a scheme, and the state that it is in.
class Board:
    def __init__(self):
        self.scheme = Scheme([])
        self.state = 0


# Whether the relays rise, are all unsettled, and are one at least.
def is_move(relays, unsettled):
    for place, relay in enumerate(relays):
        if relay not in unsettled:
            return False
        if place > 0 and relay <= relays[place - 1]:
            return False
    return len(relays) > 0


def is_state(number):
    return 0 <= number < STATE_LIMIT


def answer_load(board, text):
    if len(text) > LONGEST_TEXT:
        return [BAD_ARGUMENT]
    entries = entries_of(text)
    fault = first_fault(entries)
    if fault == NO_FAULT:
        board.scheme = Scheme(entries)
        board.state = 0
    return [0, fault[0], fault[1]]


def answer_set(board, number):
    if not is_state(number):
        return [BAD_ARGUMENT]
    board.state = own_bits(board.scheme, number)
    return [0, board.state]


def answer_told(board):
    return [0, board.state]


def answer_unsettled(board):
    return [0] + unsettled_relays(board.scheme, board.state)


def answer_move(board, relays):
    if not is_move(relays, unsettled_relays(board.scheme, board.state)):
        return [NOT_POSSIBLE]
    for relay in relays:
        board.state = board.state ^ relay_bit(relay)
    return [0, board.state]


def answer_moves(board):
    return [0] + next_states(board.scheme, board.state)


def answer_come(board):
    return [0] + sorted(steps_from(board.scheme, board.state))


def answer_rests(board):
    return [0] + rests_among(steps_from(board.scheme, board.state))


def answer_fate(board):
    steps = steps_from(board.scheme, board.state)
    rest_count = len(rests_among(steps))
    longest = longest_courses(steps)
    if board.state not in longest:
        return [0, rest_count, 1, 0]
    return [0, rest_count, 0, longest[board.state]]


def answer_course(board, number):
    courses = shortest_courses(steps_from(board.scheme, board.state), board.state)
    goal = own_bits(board.scheme, number)
    if goal not in courses:
        return [NOT_POSSIBLE]
    return [0] + courses[goal]


def answer_ring(board):
    ring = least_ring(steps_from(board.scheme, board.state))
    if len(ring) == 0:
        return [NOT_POSSIBLE]
    return [0] + ring


def answer_all(board):
    return [0] + [state for state in states_alike(board.scheme, board.state) if is_rest(board.scheme, state)]


# The calls that look at many states; those of a scheme with many relays would be too many.
def answer_exploring(board, call):
    number = call[0]
    # What is no state is refused ahead of the many relays.
    if number == COURSE and not is_state(call[1]):
        return [BAD_ARGUMENT]
    if len(board.scheme.relay_nodes) > MOST_RELAYS_TO_EXPLORE:
        return [TOO_MANY_RELAYS]
    if number == MOVES:
        return answer_moves(board)
    if number == COME:
        return answer_come(board)
    if number == RESTS:
        return answer_rests(board)
    if number == FATE:
        return answer_fate(board)
    if number == COURSE:
        return answer_course(board, call[1])
    if number == RING:
        return answer_ring(board)
    return answer_all(board)


def answer_of(board, call):
    number = call[0]
    if number == LOAD:
        return answer_load(board, call[2:])
    if number == SET:
        return answer_set(board, call[1])
    if number == TOLD:
        return answer_told(board)
    if number == UNSETTLED:
        return answer_unsettled(board)
    if number == MOVE:
        return answer_move(board, call[2:])
    if MOVES <= number <= ALL:
        return answer_exploring(board, call)
    raise ValueError(f"no call has the number {number}")


# How many numbers the call has that begins there.
def call_length(calls, start):
    number = calls[start]
    if number == LOAD or number == MOVE:
        return 2 + calls[start + 1]
    if number == SET or number == COURSE:
        return 2
    return 1


# The answers to the calls on a new object, each with how many numbers it has before it.
def answers(calls):
    board = Board()
    told = []
    start = 0
    while start < len(calls):
        length = call_length(calls, start)
        answer = answer_of(board, calls[start:start + length])
        told.append(len(answer))
        told.extend(answer)
        start += length
    return told
