"""Promise 11: ring."""

import random
import unittest

from helper import (RING, TOLD, UNSETTLED, ask, counting_scheme, gray, last, lines, lively_scheme, load, on,
                    plain_explored, put, relays_at_the_rail)

R, S, T = on(16), on(17), on(18)

RACE = lines("relay r at 1", "relay s at 2", "open s 0 1", "open r 0 2")
BUZZER = lines("in a", "relay r at 2", "close a 0 1", "open r 1 2")
LATE_BUZZER = lines("relay r at 2", "relay s at 0", "close s 0 1", "open r 1 2")
CIRCLE = lines("relay r at 1", "relay s at 2", "relay t at 3", "open t 0 1", "close r 0 2", "close s 0 3")


def told(text, state):
    return last(load(text), put(state), RING)


class Ring(unittest.TestCase):
    def refused(self, text, state):
        told_all = ask(load(text), put(state), UNSETTLED, RING, TOLD, UNSETTLED)
        self.assertEqual(told_all[3:], [[-5], [0, state], told_all[2]])

    def test_none(self):
        self.assertEqual(ask(RING, TOLD), [[-5], [0, 0]])
        self.refused(BUZZER, 0)
        self.refused(BUZZER, on(16))
        self.refused(lines("relay r at 0", "relay s at 1", "close r 0 1"), 0)
        self.refused(counting_scheme(False), 0)

    def test_a_ring_that_may_not_come(self):
        self.refused(RACE, R)
        self.refused(RACE, S)

    def test_two_states(self):
        self.assertEqual(told(lines("relay r at 1", "open r 0 1"), 0), [0, 0, R])
        self.assertEqual(told(BUZZER, on(0)), [0, on(0), on(0, 16)])
        self.assertEqual(told(RACE, 0), [0, 0, R + S])

    def test_more_states(self):
        self.assertEqual(told(CIRCLE, 0), [0, 0, R, R + S, R + S + T, S + T, T])

    def test_64_states(self):
        for start in (0, 1, 40, 63):
            self.assertEqual(told(counting_scheme(True), gray(64)[start]), [0] + gray(64))

    def test_the_least_is_not_the_objects_own(self):
        self.assertEqual(told(BUZZER, on(0, 16)), [0, on(0), on(0, 16)])
        self.assertEqual(told(RACE, R + S), [0, 0, R + S])
        for state in (R, R + S, R + S + T, S + T, T):
            self.assertEqual(told(CIRCLE, state), [0, 0, R, R + S, R + S + T, S + T, T])

    def test_a_state_that_only_leads_into_a_ring(self):
        self.assertEqual(told(LATE_BUZZER, 0), [0, S, R + S])
        self.assertEqual(told(LATE_BUZZER, R), [0, S, R + S])
        self.assertEqual(told(LATE_BUZZER, R + S), [0, S, R + S])

    def test_a_lesser_state_than_all_on_the_ring(self):
        # Both 0 and r are less than each state on the ring, and on none.
        text = lines("relay r at 0", "relay s at 1", "relay t at 3", "close r 0 1", "close s 0 2", "open t 2 3")
        self.assertEqual(told(text, 0), [0, R + S, R + S + T])

    def test_of_several_the_first_by_its_states(self):
        # Each breaks itself, so from 0 to r, to s, to both and back are two moves.
        text = lines("relay r at 1", "relay s at 2", "open r 0 1", "open s 0 2")
        for state in (0, R, S, R + S):
            self.assertEqual(told(text, state), [0, 0, R])

    def test_fewest_moves_ahead_of_lesser_states(self):
        # By way of r four moves lead back to 0 at the least, by way of s two do.
        text = lines("relay r at 1", "relay s at 2", "relay t at 3", "open t 0 1", "open s 0 2", "close r 0 3")
        self.assertEqual(told(text, 0), [0, 0, S])
        self.assertEqual(told(RACE, 0), [0, 0, R + S])

    def test_6_relays_and_7(self):
        for count in range(1, 13):
            text = lines(*[f"relay r{place} at 1" for place in range(count)], "open r0 0 1")
            told_all = ask(load(text), RING, TOLD, UNSETTLED)
            self.assertEqual(told_all[1:], [[-9] if count > 6 else [0, 0, R], [0, 0], [0] + list(range(count))])

    def test_many_relays_are_refused_ahead_of_no_ring(self):
        self.assertEqual(ask(relays_at_the_rail(6), RING)[1:], [[-5]])
        self.assertEqual(ask(relays_at_the_rail(7), RING, TOLD)[1:], [[-9], [0, 0]])

    def test_the_object_stays(self):
        self.assertEqual(ask(load(CIRCLE), put(R + S), RING, TOLD, UNSETTLED)[3:], [[0, R + S], [0, 2]])

    def test_schemes_at_random_against_a_second_telling(self):
        source = random.Random(11)
        lengths = {}
        for count in range(300):
            text = lively_scheme(source, source.randint(2, 6))
            state = ask(load(text), put(source.randrange(2 ** 32)))[1][1]
            answer = told(text, state)
            self.assertEqual(answer, plain_explored(text, state, RING), text)
            lengths[len(answer) - 1] = True
        # No ring, and rings of two states and of more.
        self.assertLessEqual({0, 2, 3, 4}, set(lengths))


if __name__ == "__main__":
    unittest.main()
