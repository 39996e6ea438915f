"""Promise 12: all."""

import random
import unittest

from helper import (ALL, RESTS, TOLD, UNSETTLED, ask, counting_scheme, lines, lively_scheme, load, on, plain_explored,
                    put, random_scheme, relays_at_the_rail)

R, S = on(16), on(17)

RACE = lines("relay r at 1", "relay s at 2", "open s 0 1", "open r 0 2")
# A relay that holds itself; input a lets it draw, b keeps it from drawing.
HOLD = lines("in a", "in b", "relay r at 2", "close a 0 1", "close r 0 1", "open b 1 2")


def told(text, state, *calls):
    return ask(load(text), put(state), *calls)[2:]


class All(unittest.TestCase):
    def test_the_empty_scheme(self):
        self.assertEqual(ask(ALL), [[0, 0]])

    def test_no_relay(self):
        self.assertEqual(told(lines("in a", "in b"), on(1), ALL), [[0, on(1)]])

    def test_one(self):
        self.assertEqual(told(HOLD, on(0), ALL), [[0, on(0, 16)]])
        self.assertEqual(told(HOLD, on(0, 16), ALL), [[0, on(0, 16)]])

    def test_those_that_may_not_come_are_told_too(self):
        for state in (0, R, S, R + S):
            self.assertEqual(told(RACE, state, ALL), [[0, R, S]])
        self.assertEqual(told(RACE, R, RESTS, ALL), [[0, R], [0, R, S]])
        self.assertEqual(told(HOLD, 0, RESTS, ALL), [[0, 0], [0, 0, R]])
        self.assertEqual(told(HOLD, R, RESTS, ALL), [[0, R], [0, 0, R]])

    def test_beside_a_ring_that_the_object_never_leaves(self):
        # While s is off r breaks itself, and s holds itself.
        text = lines("relay r at 1", "relay s at 2", "open r 0 1", "close s 0 1", "close s 0 2")
        self.assertEqual(told(text, 0, RESTS, ALL), [[0], [0, R + S]])

    def test_none(self):
        self.assertEqual(told(lines("relay r at 1", "open r 0 1"), 0, ALL), [[0]])
        self.assertEqual(told(counting_scheme(True), 0, ALL), [[0]])
        self.assertEqual(told(counting_scheme(False), 0, ALL), [[0, on(21)]])

    def test_the_objects_inputs(self):
        self.assertEqual(told(HOLD, on(1), ALL), [[0, on(1)]])
        self.assertEqual(told(HOLD, on(0, 1, 16), ALL), [[0, on(0, 1)]])
        text = lines(*[f"in a{place}" for place in range(16)], "relay r at 1", "relay s at 1", "close a15 0 1")
        self.assertEqual(told(text, 2 ** 16 - 1, ALL), [[0, 2 ** 16 - 1 + R + S]])
        self.assertEqual(told(text, 2 ** 15 - 1 + R, ALL), [[0, 2 ** 15 - 1]])

    def test_64_rests_rise(self):
        text = lines("in a", *[f"relay r{place} at {place + 1}" for place in range(6)],
                     *[f"close r{place} 0 {place + 1}" for place in range(6)])
        self.assertEqual(told(text, on(0), ALL), [[0] + [1 + (state << 16) for state in range(64)]])

    def test_6_relays_and_7(self):
        for count in range(13):
            told_all = ask(relays_at_the_rail(count), ALL, TOLD, UNSETTLED)
            self.assertEqual(told_all[1:], [[-9] if count > 6 else [0, (1 << 16 + count) - (1 << 16)], [0, 0],
                                            [0] + list(range(count))])

    def test_the_object_stays(self):
        self.assertEqual(told(HOLD, on(0), ALL, TOLD, UNSETTLED)[1:], [[0, on(0)], [0, 0]])

    def test_schemes_at_random_against_a_second_telling(self):
        source = random.Random(12)
        for count in range(200):
            make = source.choice((lively_scheme, random_scheme))
            text = make(source, source.randint(1, 6))
            state = ask(load(text), put(source.randrange(2 ** 32)))[1][1]
            self.assertEqual(told(text, state, ALL, TOLD), [plain_explored(text, state, ALL), [0, state]], text)


if __name__ == "__main__":
    unittest.main()
