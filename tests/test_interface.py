"""The interface: how calls are written and answered in one list."""

import contextlib
import io
import unittest

from helper import MOVES, TOLD, UNSETTLED, ask, lines, load, move, on, put
from relaymoves.scheme import answers

TEXT = lines("in a", "relay r at 1", "relay s at 2", "close a 0 1", "open r 0 2")


def flat(*calls):
    return [number for call in calls for number in call]


class Watched(list):
    """A list that tells if someone changes it, for a while too."""

    def changed(self, *rest):
        raise AssertionError("the list that was handed in is changed")

    __setitem__ = __delitem__ = __iadd__ = __imul__ = changed
    append = clear = extend = insert = pop = remove = reverse = sort = changed


class Interface(unittest.TestCase):
    def test_answers_as_numbers(self):
        self.assertEqual(answers([3]), [2, 0, 0])
        self.assertEqual(answers([4]), [1, 0])
        self.assertEqual(answers([6]), [1, 0])
        self.assertEqual(answers([1, 0]), [3, 0, 0, 0])
        self.assertEqual(answers([1, 1, 10]), [3, 0, 1, 0])
        self.assertEqual(answers([2, -1]), [1, -1])
        self.assertEqual(answers([2, 5]), [2, 0, 0])
        self.assertEqual(answers([5, 0]), [1, -5])
        self.assertEqual(answers([5, 2, 0, 1]), [1, -5])

    def test_several_calls_in_one_list(self):
        told = answers(flat(load(TEXT), put(1), UNSETTLED, MOVES, move(), move(0, 1), TOLD, MOVES, put(2 ** 32), TOLD))
        self.assertEqual(told, [3, 0, 0, 0, 2, 0, 1, 3, 0, 0, 1, 4, 0, on(0, 16), on(0, 17), on(0, 16, 17), 1, -5,
                                2, 0, on(0, 16, 17), 2, 0, on(0, 16, 17), 2, 0, on(0, 16), 1, -1,
                                2, 0, on(0, 16, 17)])

    def test_numbers_that_look_like_calls_within_a_call(self):
        self.assertEqual(ask(put(3), TOLD), [[0, 0], [0, 0]])
        self.assertEqual(ask(load([3, 4, 6]), TOLD), [[0, 1, 0], [0, 0]])
        self.assertEqual(ask(move(1, 2, 3, 4, 5, 6), TOLD), [[-5], [0, 0]])

    def test_whole_numbers_in_a_list(self):
        told = answers(flat(load(TEXT), put(1), UNSETTLED, MOVES, move(0), TOLD))
        self.assertIs(type(told), list)
        for number in told:
            self.assertIs(type(number), int)

    def test_the_list_handed_in_is_not_changed(self):
        calls = flat(load(TEXT), put(1), UNSETTLED, MOVES, move(0, 1), move(5, 4), TOLD, load("x"), put(-1))
        before = list(calls)
        told = answers(calls)
        self.assertEqual(calls, before)
        self.assertIsNot(told, calls)
        self.assertEqual(answers(Watched(calls)), told)

    def test_nothing_is_kept(self):
        calls = flat(load(TEXT), put(1), move(0), TOLD, UNSETTLED)
        first = answers(calls)
        self.assertEqual(answers([3]), [2, 0, 0])
        self.assertEqual(answers([2, 1]), [2, 0, 0])
        self.assertEqual(answers(calls), first)
        first.append(7)
        self.assertEqual(answers(calls), first[:-1])

    def test_nothing_is_printed(self):
        out = io.StringIO()
        with contextlib.redirect_stdout(out), contextlib.redirect_stderr(out):
            answers(flat(load(TEXT), load("x"), put(1), put(-1), TOLD, UNSETTLED, move(0), move(), MOVES))
        self.assertEqual(out.getvalue(), "")

    def test_a_long_text_and_many_calls(self):
        rows = ([f"in abcdefghij{count}" for count in range(10, 26)]
                + [f"relay bcdefghijk{count} at {count} up 65535 down 65535" for count in range(10, 16)]
                + [f"lamp cdefghijkl{count} at 63" for count in range(10, 26)]
                + [f"close abcdefghij10 {node} {node + 1}" for node in range(63)]
                + ["open abcdefghij10 10 63"] * 193)
        text = lines(*rows)
        self.assertLess(len(text), 20000)
        relays = [state << 16 for state in range(1, 64)]
        told = ask(load(text), put(0), *[MOVES] * 18, put(1), *[MOVES] * 19)
        self.assertEqual(told[:20], [[0, 0, 0], [0, 0]] + [[0]] * 18)
        self.assertEqual(told[20:], [[0, 1]] + [[0] + [1 + state for state in relays]] * 19)

    def test_a_list_of_30000_numbers(self):
        self.assertEqual(ask(load("\n" * 20000), load("in a\n"), move(*range(9953)), *[TOLD] * 37),
                         [[0, 1, 0], [0, 0, 0], [-5]] + [[0, 0]] * 37)
        self.assertEqual(ask(move(*range(29998))), [[-5]])


if __name__ == "__main__":
    unittest.main()
