"""Promise 10: course."""

import random
import unittest

from helper import (TOLD, UNSETTLED, ask, counting_scheme, course, gray, last, lines, lively_scheme, load, move, on,
                    plain_explored, plain_steps, put, relays_at_the_rail)

R, S, T, U = on(16), on(17), on(18), on(19)

FOLLOWER = lines("in a", "relay r at 1", "close a 0 1")
RACE = lines("relay r at 1", "relay s at 2", "open s 0 1", "open r 0 2")
CHAIN = lines("relay r at 0", "relay s at 1", "relay t at 2", "close r 0 1", "close s 0 2")
# Relay t draws once r or s does.
EITHER = lines("relay r at 0", "relay s at 0", "relay t at 1", "close r 0 1", "close s 0 1")


def told(text, state, goal):
    return last(load(text), put(state), course(goal))


class Course(unittest.TestCase):
    def test_to_itself(self):
        self.assertEqual(ask(course(0)), [[0]])
        self.assertEqual(told(FOLLOWER, on(0), on(0)), [0])
        self.assertEqual(told(FOLLOWER, on(0, 16), on(0, 16)), [0])
        self.assertEqual(told(CHAIN, 0, 0), [0])

    def test_to_itself_on_a_ring(self):
        buzzer = lines("relay r at 1", "open r 0 1")
        self.assertEqual([told(buzzer, 0, 0), told(buzzer, R, R)], [[0], [0]])
        self.assertEqual([told(RACE, 0, 0), told(RACE, R + S, R + S)], [[0], [0]])

    def test_one_move(self):
        self.assertEqual(told(FOLLOWER, on(0), on(0, 16)), [0, on(0, 16)])
        self.assertEqual(told(FOLLOWER, on(16), 0), [0, 0])
        for goal in (R, S, R + S):
            self.assertEqual(told(RACE, 0, goal), [0, goal])

    def test_several_relays_at_once_are_one_move(self):
        self.assertEqual(last(relays_at_the_rail(6), course(63 << 16)), [0, 63 << 16])

    def test_several_moves(self):
        self.assertEqual(told(CHAIN, 0, R + S), [0, R, R + S])
        self.assertEqual(told(CHAIN, 0, R + S + T), [0, R, R + S, R + S + T])
        self.assertEqual(told(CHAIN, R, R + S + T), [0, R + S, R + S + T])

    def test_of_several_the_first_by_its_states(self):
        # By way of r, of s, or of both.
        self.assertEqual(told(EITHER, 0, R + S + T), [0, R, R + S + T])
        # By way of s or of r and s; r alone doesn't let t draw.
        text = lines("relay r at 0", "relay s at 0", "relay t at 1", "close s 0 1")
        self.assertEqual(told(text, 0, R + S + T), [0, S, R + S + T])

    def test_the_first_state_counts_ahead_of_later_ones(self):
        # Three moves lead to the goal: the first turns r, s or both, and t and u draw behind s, one after another.
        text = lines("relay r at 0", "relay s at 0", "relay t at 1", "relay u at 2", "close s 0 1", "close t 0 2")
        self.assertEqual(told(text, 0, R + S + T + U), [0, S, S + T, R + S + T + U])
        self.assertEqual(told(text, 0, S + T + U), [0, S, S + T, S + T + U])

    def test_relays_that_fall_make_a_lesser_state(self):
        # Relays r and s fall, and t draws once one of them has: to t by way of r, of s, or of 0.
        text = lines("relay r at 9", "relay s at 9", "relay t at 1", "open r 0 1", "open s 0 1")
        self.assertEqual(told(text, R + S, T), [0, 0, T])
        self.assertEqual(told(text, R + S, R + T), [0, R, R + T])

    def test_fewest_moves_ahead_of_lesser_states(self):
        self.assertEqual(told(RACE, 0, R + S), [0, R + S])
        self.assertEqual(told(EITHER, 0, R + S), [0, R + S])

    def test_bits_of_no_variable(self):
        waste = 2 ** 32 - 1 - on(0, 16)
        self.assertEqual(told(FOLLOWER, on(0), on(0, 16) + waste), [0, on(0, 16)])
        self.assertEqual(told(FOLLOWER, on(0), on(0) + waste), [0])
        self.assertEqual(told(FOLLOWER, on(0), waste), [-5])
        self.assertEqual(ask(course(2 ** 32 - 1)), [[0]])

    def refused(self, text, state, goal, refusal):
        told_all = ask(load(text), put(state), UNSETTLED, course(goal), TOLD, UNSETTLED)
        self.assertEqual(told_all[3:], [[refusal], [0, state], told_all[2]])

    def test_what_may_not_come(self):
        self.refused(FOLLOWER, 0, on(16), -5)
        self.refused(FOLLOWER, on(0, 16), on(0), -5)
        self.refused(RACE, R, S, -5)
        self.refused(RACE, R, 0, -5)
        self.refused(CHAIN, R, 0, -5)
        self.refused(CHAIN, 0, S, -5)
        self.refused(CHAIN, 0, R + T, -5)

    def test_other_inputs(self):
        self.refused(FOLLOWER, on(0), 0, -5)
        self.refused(FOLLOWER, on(0), on(16), -5)
        self.refused(FOLLOWER, 0, on(0), -5)
        self.refused(FOLLOWER, 0, on(0, 16), -5)

    def test_what_is_no_state(self):
        for number in (-1, -2, -5, -2 ** 32, 2 ** 32, 2 ** 32 + 1, 2 ** 33 - 1):
            self.refused(FOLLOWER, on(0), number, -1)
            self.assertEqual(ask(course(number), TOLD), [[-1], [0, 0]])

    def test_the_greatest_state(self):
        text = lines(*[f"in a{place}" for place in range(16)], *[f"relay r{place} at 0" for place in range(6)])
        self.assertEqual(told(text, 2 ** 16 - 1, 2 ** 32 - 1), [0, 2 ** 22 - 1])

    def test_6_relays_and_7(self):
        for count in range(1, 13):
            rail = relays_at_the_rail(count)
            many = count > 6
            self.assertEqual(ask(rail, course(0), course(1 << 15 + count), TOLD)[1:],
                             [[-9] if many else [0], [-9] if many else [0, 1 << 15 + count], [0, 0]])

    def test_the_order_of_refusals(self):
        rest = load(lines("in a", *[f"relay r{place} at 1" for place in range(7)]))
        for number in (-1, -2 ** 32, 2 ** 32, 2 ** 33 - 1):
            self.assertEqual(ask(rest, course(number), TOLD)[1:], [[-1], [0, 0]])
        for number in (R, on(0), 2 ** 32 - 1):
            self.assertEqual(ask(rest, course(number), TOLD)[1:], [[-9], [0, 0]])

    def test_the_object_stays(self):
        self.assertEqual(ask(load(CHAIN), put(R), course(R + S + T), TOLD, UNSETTLED, move(1), course(R + S + T))[2:],
                         [[0, R + S, R + S + T], [0, R], [0, 1], [0, R + S], [0, R + S + T]])

    def test_63_moves(self):
        states = gray(64)
        for for_ever in (False, True):
            text = counting_scheme(for_ever)
            self.assertEqual(told(text, 0, on(21)), [0] + states[1:])
            self.assertEqual(told(text, states[5], states[50]), [0] + states[6:51])
        self.assertEqual(told(counting_scheme(True), states[60], states[3]), [0] + states[61:] + states[:4])
        self.assertEqual(told(counting_scheme(False), states[60], states[3]), [-5])

    def test_schemes_at_random_against_a_second_telling(self):
        source = random.Random(10)
        longest = 0
        for count in range(300):
            text = lively_scheme(source, source.randint(2, 6))
            state = ask(load(text), put(source.randrange(2 ** 32)))[1][1]
            come = sorted(plain_steps(text, state))
            goals = source.sample(come, min(10, len(come))) + [source.randrange(2 ** 32)]
            answers = ask(load(text), put(state), *[course(goal) for goal in goals])[2:]
            self.assertEqual(answers, [plain_explored(text, state, course(goal)) for goal in goals], text)
            longest = max(longest, *[len(answer) - 1 for answer in answers])
        self.assertGreater(longest, 3)


if __name__ == "__main__":
    unittest.main()
