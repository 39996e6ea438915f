"""The interface: how calls are written and answered in one list."""

import contextlib
import io
import random
import unittest

from helper import (ALL, COME, FATE, MOVES, RESTS, RING, TOLD, UNSETTLED, ask, course, counting_scheme, lines,
                    lively_scheme, load, move, on, plain_explored, plain_fault, plain_unsettled, put, random_scheme)
from relaymoves.scheme import answers

TEXT = lines("in a", "relay r at 1", "relay s at 2", "close a 0 1", "open r 0 2")
# In state 1 relay r draws and s breaks itself.
BUZZ = lines("in a", "relay r at 1", "relay s at 3", "close a 0 1", "close r 0 2", "open s 2 3")
EVERY_CALL = (load(BUZZ), put(1), TOLD, UNSETTLED, move(0), MOVES, COME, RESTS, FATE, course(on(0, 16, 17)), RING, ALL)


def flat(*calls):
    return [number for call in calls for number in call]


class Watched(list):
    """A list that tells if someone changes it, for a while too."""

    def changed(self, *rest):
        raise AssertionError("the list that was handed in is changed")

    __setitem__ = __delitem__ = __iadd__ = __imul__ = changed
    append = clear = extend = insert = pop = remove = reverse = sort = changed


class Mix:
    """Calls at random on one object, and what the second telling answers to them."""

    def __init__(self, source):
        self.source = source
        self.text = ""
        self.state = 0
        self.calls = []
        self.told = []

    def one_more(self):
        call = self.random_call()
        self.calls.append(call)
        self.told.append(self.answer(call))

    def random_call(self):
        source = self.source
        number = source.choice((1, 2, 2, 3, 4, 5, 5, 5, 6, 7, 8, 9, 10, 10, 11, 11, 12))
        if number == 1:
            make = source.choice((lively_scheme, lively_scheme, random_scheme))
            text = make(source, source.choice((1, 2, 3, 3, 4, 4, 5, 6, 7)))
            return load(text if source.random() < 0.8 else text[:-1])
        if number in (2, 10):
            wrong = source.choice((-1, -2 ** 32, 2 ** 32, 2 ** 33 - 1))
            near = self.state ^ source.randrange(128) << 16
            return [number, source.choice((wrong, near, near, near, source.randrange(2 ** 32)))]
        if number == 5:
            unsettled = plain_unsettled(self.text, self.state)
            relays = sorted(source.sample(unsettled, source.randint(0, len(unsettled))))
            return move(*(relays if source.random() < 0.8 else relays[::-1] + [3]))
        return [number]

    def answer(self, call):
        if call[0] == 1:
            text = bytes(call[2:]).decode("latin-1")
            fault = plain_fault(text)
            if fault == (0, 0):
                self.text = text
                self.state = 0
            return [0, *fault]
        if call[0] == 2:
            if not 0 <= call[1] < 2 ** 32:
                return [-1]
            rows = self.text.splitlines()
            inputs = sum(row.startswith("in ") for row in rows)
            relays = sum(row.startswith("relay ") for row in rows)
            self.state = call[1] & on(*range(inputs), *range(16, 16 + relays))
        if call[0] == 4:
            return [0] + plain_unsettled(self.text, self.state)
        if call[0] == 5:
            relays = call[2:]
            unsettled = plain_unsettled(self.text, self.state)
            if not relays or relays != sorted(set(relays)) or not set(relays) <= set(unsettled):
                return [-5]
            self.state ^= on(*[16 + relay for relay in relays])
        if call[0] > 5:
            return plain_explored(self.text, self.state, call)
        return [0, self.state]


class Interface(unittest.TestCase):
    def test_answers_as_numbers(self):
        self.assertEqual(answers([3]), [2, 0, 0])
        self.assertEqual(answers([4]), [1, 0])
        self.assertEqual(answers([6]), [1, 0])
        self.assertEqual(answers([1, 0]), [3, 0, 0, 0])
        self.assertEqual(answers([1, 1, 10]), [3, 0, 1, 0])
        self.assertEqual(answers([2, -1]), [1, -1])
        self.assertEqual(answers([2, 5]), [2, 0, 0])
        self.assertEqual(answers([5, 0]), [1, -5])
        self.assertEqual(answers([5, 2, 0, 1]), [1, -5])
        self.assertEqual(answers([7]), [2, 0, 0])
        self.assertEqual(answers([8]), [2, 0, 0])
        self.assertEqual(answers([9]), [4, 0, 1, 0, 0])
        self.assertEqual(answers([10, 0]), [1, 0])
        self.assertEqual(answers([10, -1]), [1, -1])
        self.assertEqual(answers([11]), [1, -5])
        self.assertEqual(answers([12]), [2, 0, 0])

    def test_each_call_once_in_one_list(self):
        self.assertEqual(answers(flat(*EVERY_CALL)), [
            3, 0, 0, 0, 2, 0, 1, 2, 0, 1, 2, 0, 0, 2, 0, on(0, 16), 2, 0, on(0, 16, 17),
            3, 0, on(0, 16), on(0, 16, 17), 1, 0, 4, 0, 0, 1, 0, 2, 0, on(0, 16, 17),
            3, 0, on(0, 16), on(0, 16, 17), 1, 0])

    def test_several_calls_in_one_list(self):
        told = answers(flat(load(TEXT), put(1), UNSETTLED, MOVES, move(), move(0, 1), TOLD, MOVES, put(2 ** 32), TOLD))
        self.assertEqual(told, [3, 0, 0, 0, 2, 0, 1, 3, 0, 0, 1, 4, 0, on(0, 16), on(0, 17), on(0, 16, 17), 1, -5,
                                2, 0, on(0, 16, 17), 2, 0, on(0, 16, 17), 2, 0, on(0, 16), 1, -1,
                                2, 0, on(0, 16, 17)])

    def test_numbers_that_look_like_calls_within_a_call(self):
        self.assertEqual(ask(put(3), TOLD), [[0, 0], [0, 0]])
        self.assertEqual(ask(load([3, 4, 6]), TOLD), [[0, 1, 0], [0, 0]])
        self.assertEqual(ask(move(1, 2, 3, 4, 5, 6), TOLD), [[-5], [0, 0]])
        self.assertEqual(ask(course(3), course(10), course(12), TOLD), [[0], [0], [0], [0, 0]])

    def test_whole_numbers_in_a_list(self):
        told = answers(flat(*EVERY_CALL, load(TEXT), put(1), UNSETTLED, MOVES, move(0), TOLD))
        self.assertIs(type(told), list)
        for number in told:
            self.assertIs(type(number), int)

    def test_the_list_handed_in_is_not_changed(self):
        calls = flat(*EVERY_CALL, course(-1), load(TEXT), put(1), UNSETTLED, MOVES, move(0, 1), move(5, 4), TOLD,
                     load("x"), put(-1), RING, course(0))
        before = list(calls)
        told = answers(calls)
        self.assertEqual(calls, before)
        self.assertIsNot(told, calls)
        self.assertEqual(answers(Watched(calls)), told)

    def test_nothing_is_kept(self):
        calls = flat(load(TEXT), put(1), move(0), TOLD, UNSETTLED)
        first = answers(calls)
        self.assertEqual(answers([3]), [2, 0, 0])
        self.assertEqual(answers([2, 1]), [2, 0, 0])
        self.assertEqual(answers(calls), first)
        first.append(7)
        self.assertEqual(answers(calls), first[:-1])

    def test_every_call_keeps_nothing(self):
        calls = flat(*EVERY_CALL)
        first = answers(calls)
        self.assertEqual(ask(COME, RESTS, FATE, course(1), RING, ALL),
                         [[0, 0], [0, 0], [0, 1, 0, 0], [0], [-5], [0, 0]])
        self.assertEqual(answers(calls), first)

    def test_nothing_is_printed(self):
        out = io.StringIO()
        with contextlib.redirect_stdout(out), contextlib.redirect_stderr(out):
            answers(flat(load(TEXT), load("x"), put(1), put(-1), TOLD, UNSETTLED, move(0), move(), MOVES, *EVERY_CALL,
                         course(-1), course(0)))
        self.assertEqual(out.getvalue(), "")

    def test_a_long_text_and_many_calls(self):
        rows = ([f"in abcdefghij{count}" for count in range(10, 26)]
                + [f"relay bcdefghijk{count} at {count} up 65535 down 65535" for count in range(10, 16)]
                + [f"lamp cdefghijkl{count} at 63" for count in range(10, 26)]
                + [f"close abcdefghij10 {node} {node + 1}" for node in range(63)]
                + ["open abcdefghij10 10 63"] * 193)
        text = lines(*rows)
        self.assertLess(len(text), 20000)
        relays = [state << 16 for state in range(1, 64)]
        told = ask(load(text), put(0), *[MOVES] * 18, put(1), *[MOVES] * 19)
        self.assertEqual(told[:20], [[0, 0, 0], [0, 0]] + [[0]] * 18)
        self.assertEqual(told[20:], [[0, 1]] + [[0] + [1 + state for state in relays]] * 19)

    def test_40_calls_that_look_far(self):
        text = counting_scheme(True)
        told = ask(load(text), *[COME, FATE, RING] * 13)
        self.assertEqual(told[1:], told[1:4] * 13)
        self.assertEqual([len(answer) for answer in told[1:4]], [65, 4, 65])

    def test_lists_that_mix_all_calls_against_a_second_telling(self):
        source = random.Random(40)
        seen = {}
        for count in range(120):
            mix = Mix(source)
            for place in range(source.randint(1, 40)):
                mix.one_more()
            calls = flat(*mix.calls)
            before = list(calls)
            told = answers(calls)
            self.assertEqual(told, flat(*[[len(answer)] + answer for answer in mix.told]), mix.calls)
            self.assertEqual(calls, before)
            self.assertEqual(answers(calls), told)
            seen.update({(call[0], answer[0]): True for call, answer in zip(mix.calls, mix.told)})
        for number in range(1, 13):
            self.assertIn((number, 0), seen)
        for refused in ((2, -1), (5, -5), (10, -1), (10, -9), (10, -5), (11, -9), (11, -5)):
            self.assertIn(refused, seen)

    def test_a_list_of_30000_numbers(self):
        self.assertEqual(ask(load("\n" * 20000), load("in a\n"), move(*range(9953)), *[TOLD] * 37),
                         [[0, 1, 0], [0, 0, 0], [-5]] + [[0, 0]] * 37)
        self.assertEqual(ask(move(*range(29998))), [[-5]])


if __name__ == "__main__":
    unittest.main()
