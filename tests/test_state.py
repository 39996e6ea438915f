"""Promises 2 and 3: set and told."""

import unittest

from helper import TOLD, UNSETTLED, ask, last, lines, load, move, on, put

SCHEME = load(lines("in a", "in b", "in c", "relay r at 0", "relay s at 1", "close a 0 1"))
OWN = on(0, 1, 2, 16, 17)


class Set(unittest.TestCase):
    def test_bits_of_variables_stay(self):
        for state in (0, 1, 2, 4, 7, on(16), on(17), on(0, 17), OWN):
            self.assertEqual(ask(SCHEME, put(state), TOLD)[1:], [[0, state], [0, state]])

    def test_bits_of_no_variable_are_taken_away(self):
        self.assertEqual(ask(SCHEME, put(2 ** 32 - 1), TOLD)[1:], [[0, OWN], [0, OWN]])
        for variable in range(32):
            told = [0, on(variable) & OWN]
            self.assertEqual(ask(SCHEME, put(on(variable)), TOLD)[1:], [told, told])

    def test_a_scheme_without_anything(self):
        self.assertEqual(ask(put(2 ** 32 - 1), TOLD, put(0)), [[0, 0], [0, 0], [0, 0]])

    def test_a_full_scheme(self):
        text = lines(*[f"in a{count}" for count in range(16)], *[f"relay r{count} at 1" for count in range(12)],
                     *[f"lamp l{count} at 1" for count in range(16)])
        self.assertEqual(ask(load(text), put(2 ** 32 - 1), put(2 ** 28), put(2 ** 27), put(2 ** 15))[1:],
                         [[0, 2 ** 28 - 1], [0, 0], [0, 2 ** 27], [0, 2 ** 15]])

    def test_inputs_alone_and_relays_alone(self):
        self.assertEqual(last(load(lines("in a", "in b")), put(2 ** 32 - 1)), [0, on(0, 1)])
        self.assertEqual(last(load(lines("relay r at 0")), put(2 ** 32 - 1)), [0, on(16)])

    def test_no_state(self):
        for number in (2 ** 32, 2 ** 32 + 1, 2 ** 33 - 1, -1, -2, -2 ** 32):
            told = ask(SCHEME, put(on(1, 17)), put(number), TOLD, UNSETTLED)
            self.assertEqual(told[2:], [[-1], [0, on(1, 17)], [0, 0, 1]])

    def test_a_later_set_forgets_the_one_before(self):
        self.assertEqual(ask(SCHEME, put(OWN), put(on(1)), TOLD)[1:], [[0, OWN], [0, 2], [0, 2]])


class Told(unittest.TestCase):
    def test_at_the_beginning(self):
        self.assertEqual(ask(TOLD), [[0, 0]])

    def test_after_load(self):
        self.assertEqual(ask(SCHEME, TOLD)[1:], [[0, 0]])
        self.assertEqual(ask(SCHEME, put(OWN), SCHEME, TOLD)[3:], [[0, 0]])

    def test_after_set_and_move(self):
        self.assertEqual(ask(SCHEME, put(1), TOLD, move(0), TOLD, move(1), TOLD)[1:],
                         [[0, 1], [0, 1], [0, on(0, 16)], [0, on(0, 16)], [0, on(0, 16, 17)], [0, on(0, 16, 17)]])

    def test_after_refusals_and_a_fault(self):
        told = ask(SCHEME, put(on(0, 16)), put(-1), TOLD, move(0), TOLD, move(), TOLD, load([0] * 20001), TOLD,
                   load("in"), TOLD)
        self.assertEqual(told[2:], [[-1], [0, on(0, 16)], [-5], [0, on(0, 16)], [-5], [0, on(0, 16)],
                                    [-1], [0, on(0, 16)], [0, 1, 0], [0, on(0, 16)]])

    def test_asking_changes_nothing(self):
        self.assertEqual(ask(SCHEME, put(3), TOLD, TOLD, UNSETTLED, TOLD)[1:],
                         [[0, 3], [0, 3], [0, 3], [0, 0, 1], [0, 3]])


if __name__ == "__main__":
    unittest.main()
