"""Promise 4: unsettled, and so what is live and what draws."""

import random
import unittest

from helper import UNSETTLED, ask, last, lines, load, on, plain_unsettled, put, random_scheme


def unsettled(text, state):
    return last(load(text), put(state), UNSETTLED)


class Unsettled(unittest.TestCase):
    def test_at_the_beginning(self):
        self.assertEqual(ask(UNSETTLED), [[0]])

    def test_a_closer_worked_by_an_input(self):
        text = lines("in a", "relay r at 1", "close a 0 1")
        self.assertEqual([unsettled(text, state) for state in (0, on(0), on(16), on(0, 16))],
                         [[0], [0, 0], [0, 0], [0]])

    def test_an_opener_worked_by_an_input(self):
        text = lines("in a", "relay r at 1", "open a 0 1")
        self.assertEqual([unsettled(text, state) for state in (0, on(0), on(16), on(0, 16))],
                         [[0, 0], [0], [0], [0, 0]])

    def test_a_closer_worked_by_a_relay(self):
        text = lines("relay r at 1", "relay s at 2", "close s 0 1")
        self.assertEqual([unsettled(text, state) for state in (0, on(16), on(17), on(16, 17))],
                         [[0], [0, 0], [0, 0, 1], [0, 1]])

    def test_an_opener_worked_by_a_relay(self):
        text = lines("relay r at 1", "open r 0 1")
        self.assertEqual([unsettled(text, state) for state in (0, on(16))], [[0, 0], [0, 0]])

    def test_a_relay_at_the_rail_always_draws(self):
        text = lines("relay r at 0")
        self.assertEqual([unsettled(text, state) for state in (0, on(16))], [[0, 0], [0]])

    def test_a_relay_at_a_node_of_no_contact_never_draws(self):
        text = lines("relay r at 63")
        self.assertEqual([unsettled(text, state) for state in (0, on(16))], [[0], [0, 0]])

    def test_live_in_either_direction(self):
        text = lines("in a", "relay r at 1", "close a 0 9", "close a 1 9")
        self.assertEqual([unsettled(text, state) for state in (0, on(0))], [[0], [0, 0]])
        text = lines("in a", "relay r at 9", "close a 0 1", "close a 1 9")
        self.assertEqual([unsettled(text, state) for state in (0, on(0))], [[0], [0, 0]])

    def test_contacts_away_from_the_rail_make_nothing_live(self):
        text = lines("in a", "relay r at 1", "relay s at 2", "close a 1 2", "open a 0 1")
        self.assertEqual([unsettled(text, state) for state in (0, on(0))], [[0, 0], [0]])

    def test_contacts_beside_one_another(self):
        text = lines("in a", "in b", "relay r at 1", "close a 0 1", "close b 0 1")
        self.assertEqual([unsettled(text, state) for state in (0, 1, 2, 3)], [[0], [0, 0], [0, 0], [0, 0]])

    def test_contacts_one_behind_another(self):
        text = lines("in a", "in b", "relay r at 2", "close a 0 1", "close b 1 2")
        self.assertEqual([unsettled(text, state) for state in (0, 1, 2, 3)], [[0], [0], [0], [0, 0]])

    def test_nodes_in_a_circle(self):
        text = lines("in a", "relay r at 3", "close a 0 1", "close a 1 2", "close a 2 3", "close a 0 3", "open a 1 3")
        self.assertEqual([unsettled(text, state) for state in (0, 1)], [[0], [0, 0]])

    def test_over_63_contacts_in_any_order(self):
        source = random.Random(63)
        for count in range(20):
            way = [0] + source.sample(range(1, 64), 63)
            rows = [f"close a {min(pair)} {max(pair)}" for pair in zip(way, way[1:])]
            for order in (rows, rows[::-1], source.sample(rows, 63)):
                text = lines("in a", f"relay r at {way[63]}", f"relay s at {way[31]}", *order)
                self.assertEqual(unsettled(text, on(0)), [0, 0, 1])
                cut = [row if row != rows[40] else row.replace("close", "open") for row in order]
                text = lines("in a", f"relay r at {way[63]}", f"relay s at {way[31]}", *cut)
                self.assertEqual(unsettled(text, on(0)), [0, 1])

    def test_12_relays(self):
        text = lines(*[f"relay r{count} at {count % 2}" for count in range(12)])
        self.assertEqual(unsettled(text, 0), [0, 0, 2, 4, 6, 8, 10])
        self.assertEqual(unsettled(text, 2 ** 32 - 1), [0, 1, 3, 5, 7, 9, 11])
        self.assertEqual(unsettled(text, on(16, 27)), [0, 2, 4, 6, 8, 10, 11])
        text = lines(*[f"relay r{count} at 0" for count in range(12)])
        self.assertEqual(unsettled(text, 0), [0] + list(range(12)))

    def test_each_variable_works_its_contact(self):
        names = [f"a{count}" for count in range(16)] + [f"r{count}" for count in range(12)]
        rows = [f"in {name}" for name in names[:16]] + [f"relay {name} at 1" for name in names[16:]]
        for variable, name in enumerate(names):
            text = lines(*rows, f"close {name} 0 1")
            off = [relay for relay in range(12) if 16 + relay != variable]
            self.assertEqual(unsettled(text, on(variable)), [0] + off)
            self.assertEqual(unsettled(text, 0), [0])

    def test_lamps_are_no_relays(self):
        text = lines("relay r at 0", "lamp l at 0", "lamp m at 1")
        self.assertEqual(unsettled(text, 0), [0, 0])

    def test_schemes_at_random_against_a_second_telling(self):
        source = random.Random(4)
        for count in range(300):
            text = random_scheme(source, source.randrange(13))
            states = [source.randrange(2 ** 32) for place in range(10)]
            calls = [call for state in states for call in (put(state), UNSETTLED)]
            told = ask(load(text), *calls)
            for place in range(10):
                state = told[1 + 2 * place][1]
                self.assertEqual(told[2 + 2 * place], [0] + plain_unsettled(text, state), (text, state))


if __name__ == "__main__":
    unittest.main()
