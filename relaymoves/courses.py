"""What may come of a state in whatever order its relays move: rests, courses and rings."""

from relaymoves.relays import next_states


# For each state that may come of the first, the states that one move leads to, rising.
# What is called steps in the other functions is such a dict.
def steps_from(scheme, first):
    steps = {}
    waiting = [first]
    while len(waiting) > 0:
        state = waiting.pop()
        if state not in steps:
            steps[state] = next_states(scheme, state)
            waiting.extend(steps[state])
    return steps


# The states that no move leads out of, rising.
def rests_among(steps):
    return [state for state in sorted(steps) if len(steps[state]) == 0]


# How many moves the longest course from a state has, for each state that leads into no ring.
def longest_courses(steps):
    longest = {}
    grows = True
    # A state is told once all that it leads to are, so one that leads into a ring never is.
    while grows:
        grows = False
        for state in steps:
            if state not in longest and all([later in longest for later in steps[state]]):
                longest[state] = max([1 + longest[later] for later in steps[state]], default=0)
                grows = True
    return longest


# For each state that may come of the first, the course to it of fewest moves, of several the first by its states.
# The courses stand in the dict by their moves, and those of as many moves by their states: each course is carried on
# in that order, and by rising states, so the one that comes first to a state is the one to be told.
def shortest_courses(steps, first):
    courses = {first: []}
    waiting = [first]
    place = 0
    while place < len(waiting):
        state = waiting[place]
        for later in steps[state]:
            if later not in courses:
                courses[later] = courses[state] + [later]
                waiting.append(later)
        place += 1
    return courses


# The states of a ring from the first of fewest moves, of several the first by its states; none if it is on no ring.
def shortest_ring(steps, first):
    courses = shortest_courses(steps, first)
    # The dict's order is the order that is asked for, so the first course that a move closes is the one.
    for state in courses:
        if first in steps[state]:
            return [first] + courses[state]
    return []


# The ring from the least state that is on one; none if there is no ring.
def least_ring(steps):
    for state in sorted(steps):
        ring = shortest_ring(steps, state)
        if len(ring) > 0:
            return ring
    return []
