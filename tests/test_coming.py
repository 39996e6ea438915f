"""Promises 7, 8 and 9: come, rests and fate."""

import random
import unittest

from helper import (COME, FATE, RESTS, TOLD, UNSETTLED, ask, counting_scheme, gray, last, lines, lively_scheme, load,
                    move, on, plain_explored, put, random_scheme, relays_at_the_rail)

R, S, T = on(16), on(17), on(18)

# Relay r follows input a.
FOLLOWER = lines("in a", "relay r at 1", "close a 0 1")
# The one that draws first keeps the other from drawing; where both do, both fall, and so on.
RACE = lines("relay r at 1", "relay s at 2", "open s 0 1", "open r 0 2")
# The same, but each holds itself too.
HELD_RACE = lines("relay r at 1", "relay s at 2", "open s 0 1", "close r 0 1", "open r 0 2", "close s 0 2")
# Relay r breaks itself while input a is on.
BUZZER = lines("in a", "relay r at 2", "close a 0 1", "open r 1 2")
# Relay s draws, then r breaks itself for ever: state 0 is on no ring, but leads into one.
LATE_BUZZER = lines("relay r at 2", "relay s at 0", "close s 0 1", "open r 1 2")
# One behind another.
CHAIN = lines("relay r at 0", "relay s at 1", "relay t at 2", "close r 0 1", "close s 0 2")
# One behind another, and the last breaks the first.
CIRCLE = lines("relay r at 1", "relay s at 2", "relay t at 3", "open t 0 1", "close r 0 2", "close s 0 3")
# Relays r and s race, and each holds itself: r alone is a rest, but while s is on t breaks itself.
REST_OR_BUZZ = lines("relay r at 1", "relay s at 2", "relay t at 4", "open s 0 1", "close r 0 1", "open r 0 2",
                     "close s 0 2", "close s 0 3", "open t 3 4")


def told(text, state, *calls):
    return ask(load(text), put(state), *calls)[2:]


class Come(unittest.TestCase):
    def test_the_empty_scheme(self):
        self.assertEqual(ask(COME), [[0, 0]])
        self.assertEqual(ask(load(""), put(2 ** 32 - 1), COME)[2:], [[0, 0]])

    def test_a_rest_is_all_that_comes_of_it(self):
        self.assertEqual(told(FOLLOWER, 0, COME), [[0, 0]])
        self.assertEqual(told(FOLLOWER, on(0, 16), COME), [[0, on(0, 16)]])
        self.assertEqual(told(RACE, S, COME), [[0, S]])

    def test_no_relay(self):
        self.assertEqual(told(lines("in a", "in b", "close a 0 1"), on(1), COME), [[0, on(1)]])

    def test_one_relay(self):
        self.assertEqual(told(FOLLOWER, on(0), COME), [[0, on(0), on(0, 16)]])
        self.assertEqual(told(FOLLOWER, on(16), COME), [[0, 0, on(16)]])

    def test_several_that_race(self):
        self.assertEqual(told(RACE, 0, COME), [[0, 0, R, S, R + S]])
        self.assertEqual(told(HELD_RACE, 0, COME), [[0, 0, R, S, R + S]])
        self.assertEqual(told(HELD_RACE, R, COME), [[0, R]])

    def test_one_behind_another(self):
        self.assertEqual(told(CHAIN, 0, COME), [[0, 0, R, R + S, R + S + T]])
        self.assertEqual(told(CHAIN, R, COME), [[0, R, R + S, R + S + T]])

    def test_a_ring(self):
        self.assertEqual(told(BUZZER, on(0), COME), [[0, on(0), on(0, 16)]])
        self.assertEqual(told(BUZZER, on(0, 16), COME), [[0, on(0), on(0, 16)]])
        self.assertEqual(told(CIRCLE, 0, COME), [[0, 0, R, R + S, T, S + T, R + S + T]])

    def test_what_no_course_leads_back_to(self):
        self.assertEqual(told(LATE_BUZZER, 0, COME), [[0, 0, S, R + S]])
        self.assertEqual(told(LATE_BUZZER, S, COME), [[0, S, R + S]])

    def test_relays_that_fall(self):
        text = lines("relay r at 1", "relay s at 2", "relay t at 3")
        self.assertEqual(told(text, R + T, COME), [[0, 0, R, T, R + T]])

    def test_64_states(self):
        self.assertEqual(ask(relays_at_the_rail(6), COME)[1:], [[0] + [state << 16 for state in range(64)]])
        self.assertEqual(told(counting_scheme(False), 0, COME), [[0] + [state << 16 for state in range(64)]])
        self.assertEqual(told(counting_scheme(False), gray(64)[60], COME), [[0] + sorted(gray(64)[60:])])

    def test_bits_of_no_variable_are_not_told(self):
        self.assertEqual(told(FOLLOWER, 2 ** 32 - 1 - on(16), COME), [[0, on(0), on(0, 16)]])


class Rests(unittest.TestCase):
    def test_the_empty_scheme(self):
        self.assertEqual(ask(RESTS), [[0, 0]])

    def test_one(self):
        self.assertEqual(told(FOLLOWER, on(0), RESTS), [[0, on(0, 16)]])
        self.assertEqual(told(FOLLOWER, on(16), RESTS), [[0, 0]])
        self.assertEqual(told(CHAIN, 0, RESTS), [[0, R + S + T]])

    def test_a_rest_already(self):
        self.assertEqual(told(FOLLOWER, on(0, 16), RESTS), [[0, on(0, 16)]])
        self.assertEqual(told(RACE, R, RESTS), [[0, R]])

    def test_several_rise(self):
        self.assertEqual(told(RACE, 0, RESTS), [[0, R, S]])
        self.assertEqual(told(RACE, R + S, RESTS), [[0, R, S]])
        self.assertEqual(told(HELD_RACE, 0, RESTS), [[0, R, S, R + S]])

    def test_none(self):
        self.assertEqual(told(BUZZER, on(0), RESTS), [[0]])
        self.assertEqual(told(LATE_BUZZER, 0, RESTS), [[0]])
        self.assertEqual(told(CIRCLE, 0, RESTS), [[0]])

    def test_beside_a_ring(self):
        self.assertEqual(told(REST_OR_BUZZ, 0, RESTS), [[0, R]])

    def test_after_a_long_course(self):
        self.assertEqual(told(counting_scheme(False), 0, RESTS), [[0, on(21)]])
        self.assertEqual(told(counting_scheme(True), 0, RESTS), [[0]])


class Fate(unittest.TestCase):
    def test_the_empty_scheme(self):
        self.assertEqual(ask(FATE), [[0, 1, 0, 0]])

    def test_a_rest_already(self):
        self.assertEqual(told(FOLLOWER, 0, FATE), [[0, 1, 0, 0]])
        self.assertEqual(told(FOLLOWER, on(0, 16), FATE), [[0, 1, 0, 0]])
        self.assertEqual(told(RACE, R, FATE), [[0, 1, 0, 0]])

    def test_one_rest_and_no_ring(self):
        self.assertEqual(told(FOLLOWER, on(0), FATE), [[0, 1, 0, 1]])
        self.assertEqual(told(CHAIN, 0, FATE), [[0, 1, 0, 3]])
        self.assertEqual(told(CHAIN, R + S, FATE), [[0, 1, 0, 1]])

    def test_several_rests_and_no_ring(self):
        self.assertEqual(told(HELD_RACE, 0, FATE), [[0, 3, 0, 1]])

    def test_a_ring_and_no_rest(self):
        self.assertEqual(told(BUZZER, on(0), FATE), [[0, 0, 1, 0]])
        self.assertEqual(told(BUZZER, on(0, 16), FATE), [[0, 0, 1, 0]])
        self.assertEqual(told(CIRCLE, 0, FATE), [[0, 0, 1, 0]])

    def test_a_ring_and_rests(self):
        self.assertEqual(told(RACE, 0, FATE), [[0, 2, 1, 0]])
        self.assertEqual(told(REST_OR_BUZZ, 0, FATE), [[0, 1, 1, 0]])

    def test_a_ring_that_the_state_only_leads_into(self):
        self.assertEqual(told(LATE_BUZZER, 0, FATE), [[0, 0, 1, 0]])

    def test_a_ring_that_may_not_come(self):
        self.assertEqual(told(BUZZER, 0, FATE), [[0, 1, 0, 0]])
        self.assertEqual(told(BUZZER, on(16), FATE), [[0, 1, 0, 1]])
        self.assertEqual(told(REST_OR_BUZZ, R + T, FATE), [[0, 1, 0, 1]])

    def test_the_longest_course_is_longer_than_the_shortest(self):
        for count in range(7):
            self.assertEqual(last(relays_at_the_rail(count), FATE), [0, 1, 0, count])
        # Where r and s draw at once that is all; where r does first, t may draw and fall.
        text = lines("relay r at 0", "relay s at 0", "relay t at 2", "close r 0 1", "open s 1 2")
        self.assertEqual(told(text, 0, FATE), [[0, 1, 0, 4]])
        self.assertEqual(told(text, T, FATE), [[0, 1, 0, 5]])

    def test_63_moves(self):
        text = counting_scheme(False)
        self.assertEqual(told(text, 0, FATE), [[0, 1, 0, 63]])
        self.assertEqual(told(text, gray(64)[20], FATE), [[0, 1, 0, 43]])
        self.assertEqual(told(counting_scheme(True), gray(64)[20], FATE), [[0, 0, 1, 0]])


class AllThree(unittest.TestCase):
    def test_the_object_stays(self):
        for call in (COME, RESTS, FATE):
            self.assertEqual(told(RACE, R + S, TOLD, call, TOLD, UNSETTLED)[2:], [[0, R + S], [0, 0, 1]])
            self.assertEqual(told(RACE, 0, call, move(0), TOLD)[1:], [[0, R], [0, R]])

    def test_6_relays_and_7(self):
        for count in range(13):
            last_state = (1 << 16 + count) - (1 << 16)
            good = [[0] + list(range(0, last_state + 1, 1 << 16)), [0, last_state], [0, 1, 0, count]]
            for call, answer in zip((COME, RESTS, FATE), good):
                told_all = ask(relays_at_the_rail(count), call, TOLD, UNSETTLED)
                self.assertEqual(told_all[1:], [[-9] if count > 6 else answer, [0, 0], [0] + list(range(count))])

    def test_7_relays_at_rest(self):
        text = lines(*[f"relay r{place} at 1" for place in range(7)])
        self.assertEqual(ask(load(text), COME, RESTS, FATE)[1:], [[-9], [-9], [-9]])

    def test_inputs_and_lamps_do_not_count(self):
        text = lines(*[f"in a{place}" for place in range(16)], *[f"relay r{place} at 1" for place in range(6)],
                     *[f"lamp l{place} at 0" for place in range(16)])
        self.assertEqual(told(text, 2 ** 16 - 1, COME, RESTS, FATE), [[0, 65535], [0, 65535], [0, 1, 0, 0]])

    def test_a_lesser_scheme_after_a_greater(self):
        self.assertEqual(ask(relays_at_the_rail(7), COME, relays_at_the_rail(1), COME, RESTS, FATE)[1:],
                         [[-9], [0, 0, 0], [0, 0, R], [0, R], [0, 1, 0, 1]])

    def test_delays_change_nothing(self):
        text = lines("relay r at 1 up 1", "relay s at 2 up 65535 down 9", "open s 0 1", "open r 0 2")
        self.assertEqual(told(text, 0, COME, RESTS, FATE), told(RACE, 0, COME, RESTS, FATE))

    def test_schemes_at_random_against_a_second_telling(self):
        source = random.Random(789)
        for count in range(300):
            make = source.choice((lively_scheme, lively_scheme, random_scheme))
            text = make(source, source.randint(0 if make == random_scheme else 1, 6))
            state = ask(load(text), put(source.randrange(2 ** 32)))[1][1]
            calls = (COME, RESTS, FATE)
            self.assertEqual(told(text, state, *calls), [plain_explored(text, state, call) for call in calls], text)


if __name__ == "__main__":
    unittest.main()
