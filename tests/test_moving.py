"""Promises 5 and 6: move and moves."""

import random
import unittest

from helper import (MOVES, TOLD, UNSETTLED, ask, last, lines, load, move, on, plain_moves, plain_unsettled, put,
                    random_scheme, relays_at_the_rail)

# Relays 0, 2 and 4 are unsettled in state 0, relays 1 and 3 are not.
EVEN = load(lines("in a", *[f"relay r{count} at {count % 2}" for count in range(5)]))


class Move(unittest.TestCase):
    def test_one_relay(self):
        self.assertEqual(ask(EVEN, move(2), TOLD, UNSETTLED)[1:], [[0, on(18)], [0, on(18)], [0, 0, 4]])

    def test_several_at_once(self):
        self.assertEqual(ask(EVEN, move(0, 4), TOLD, UNSETTLED)[1:], [[0, on(16, 20)], [0, on(16, 20)], [0, 2]])
        self.assertEqual(ask(EVEN, move(0, 2, 4), UNSETTLED)[1:], [[0, on(16, 18, 20)], [0]])

    def test_relays_turn_off_too(self):
        told = ask(EVEN, put(on(0, 17, 18, 19)), move(0, 1, 3), TOLD)
        self.assertEqual(told[2:], [[0, on(0, 16, 18)], [0, on(0, 16, 18)]])

    def test_inputs_stay(self):
        self.assertEqual(last(EVEN, put(1), move(0)), [0, on(0, 16)])

    def test_12_relays_at_once(self):
        self.assertEqual(last(relays_at_the_rail(12), move(*range(12))), [0, on(*range(16, 28))])
        self.assertEqual(last(relays_at_the_rail(12), move(11)), [0, on(27)])

    def test_all_at_once_by_the_state_before(self):
        # Each relay would settle the other if they turned one after another.
        race = load(lines("relay r at 1", "relay s at 2", "open s 0 1", "open r 0 2"))
        self.assertEqual(ask(race, move(0, 1), UNSETTLED, move(0, 1), TOLD)[1:],
                         [[0, on(16, 17)], [0, 0, 1], [0, 0], [0, 0]])
        self.assertEqual(ask(race, move(0), UNSETTLED, move(1), TOLD)[1:], [[0, on(16)], [0], [-5], [0, on(16)]])

    def test_a_relay_that_buzzes(self):
        buzz = load(lines("relay r at 1", "open r 0 1"))
        self.assertEqual(ask(buzz, move(0), move(0), move(0))[1:], [[0, on(16)], [0, 0], [0, on(16)]])

    def refused(self, *relays):
        told = ask(EVEN, put(1), move(*relays), TOLD, UNSETTLED)
        self.assertEqual(told[2:], [[-5], [0, 1], [0, 0, 2, 4]], relays)

    def test_an_empty_list(self):
        self.refused()
        self.assertEqual(ask(move(), TOLD), [[-5], [0, 0]])

    def test_numbers_that_do_not_rise(self):
        for relays in ((2, 0), (0, 0), (2, 2), (0, 4, 2), (0, 2, 2), (0, 0, 2), (4, 2, 0), (0, 2, 4, 4)):
            self.refused(*relays)

    def test_relays_that_are_not_unsettled(self):
        for relays in ((1,), (3,), (0, 1), (1, 2), (0, 2, 3, 4), (0, 1, 2, 3, 4)):
            self.refused(*relays)

    def test_numbers_of_no_relay(self):
        for number in (5, 12, 16, 18, 2 ** 32 - 1, 2 ** 32, 2 ** 33 - 1):
            self.refused(number)
            self.refused(0, number)
        for number in (-1, -2, -5, -12, -16, -2 ** 32):
            self.refused(number)
            self.refused(number, 0)

    def test_a_long_list(self):
        self.refused(*range(20000))
        self.refused(*([0] * 20000))

    def test_more_than_6_relays_are_moved_all_the_same(self):
        self.assertEqual(last(relays_at_the_rail(7), move(6)), [0, on(22)])

    def test_schemes_at_random_against_a_second_telling(self):
        source = random.Random(5)
        for count in range(300):
            text = random_scheme(source, source.randrange(1, 13))
            state = ask(load(text), put(source.randrange(2 ** 32)))[1][1]
            unsettled = plain_unsettled(text, state)
            relays = sorted(source.sample(unsettled, source.randint(0, len(unsettled))))
            turned = state ^ on(*[16 + relay for relay in relays])
            told = ask(load(text), put(state), move(*relays), TOLD)
            self.assertEqual(told[2:], [[0, turned] if relays else [-5], [0, turned]])


class Moves(unittest.TestCase):
    def test_no_unsettled_relay(self):
        self.assertEqual(ask(MOVES), [[0]])
        self.assertEqual(last(load(lines("in a", "relay r at 1")), put(1), MOVES), [0])

    def test_one(self):
        self.assertEqual(last(load(lines("in a", "relay r at 0")), put(1), MOVES), [0, on(0, 16)])
        self.assertEqual(last(load(lines("in a", "relay r at 1")), put(on(0, 16)), MOVES), [0, on(0)])

    def test_several_rise(self):
        self.assertEqual(last(EVEN, MOVES), [0, on(16), on(18), on(16, 18), on(20), on(16, 20), on(18, 20),
                                             on(16, 18, 20)])

    def test_several_that_turn_on_and_off_rise(self):
        self.assertEqual(last(EVEN, put(on(0, 16, 17, 18)), MOVES),
                         [0, on(0, 16, 18), on(0, 16, 18, 20), on(0, 16, 17, 18, 20)])

    def test_the_object_stays(self):
        self.assertEqual(ask(EVEN, put(1), MOVES, TOLD, UNSETTLED)[3:], [[0, 1], [0, 0, 2, 4]])

    def test_6_relays(self):
        told = last(relays_at_the_rail(6), MOVES)
        self.assertEqual(told, [0] + [state << 16 for state in range(1, 64)])

    def test_7_relays_and_more(self):
        for count in range(7, 13):
            told = ask(relays_at_the_rail(count), MOVES, TOLD, UNSETTLED)
            self.assertEqual(told[1:], [[-9], [0, 0], [0] + list(range(count))])

    def test_7_relays_at_rest(self):
        text = lines(*[f"relay r{place} at 1" for place in range(7)])
        self.assertEqual(last(load(text), MOVES), [-9])

    def test_inputs_and_lamps_do_not_count(self):
        text = lines(*[f"in a{place}" for place in range(16)], *[f"relay r{place} at 1" for place in range(6)],
                     *[f"lamp l{place} at 0" for place in range(16)])
        self.assertEqual(last(load(text), MOVES), [0])

    def test_schemes_at_random_against_a_second_telling(self):
        source = random.Random(6)
        for count in range(300):
            text = random_scheme(source, source.randrange(7))
            told = ask(load(text), put(source.randrange(2 ** 32)), MOVES, TOLD)
            self.assertEqual(told[2], [0] + plain_moves(text, told[1][1]), text)
            self.assertEqual(told[3], told[1])


if __name__ == "__main__":
    unittest.main()
