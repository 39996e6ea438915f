"""Promise 1, load: good texts, and the first fault of a text that is no scheme's."""

import random
import unittest

from helper import TOLD, UNSETTLED, ask, last, lines, load, move, on, plain_fault, put

GOOD = [0, 0, 0]


class Loading(unittest.TestCase):
    def good(self, *rows):
        self.assertEqual(last(load(lines(*rows))), GOOD, rows)

    def fault(self, kind, line, *rows):
        self.assertEqual(last(load(lines(*rows))), [0, kind, line], rows)

    def fault_of_text(self, kind, line, text):
        self.assertEqual(last(load(text)), [0, kind, line], text)

    def misshapen(self, *rows):
        for row in rows:
            self.fault(1, 1, "in a", row)


class GoodTexts(Loading):
    def test_the_empty_text(self):
        self.assertEqual(ask(load(""), put(2 ** 32 - 1), UNSETTLED), [GOOD, [0, 0], [0]])

    def test_each_sort_of_line(self):
        self.good("in a")
        self.good("relay r at 5")
        self.good("relay r at 5 up 7")
        self.good("relay r at 5 down 7")
        self.good("relay r at 5 up 7 down 9")
        self.good("lamp l at 5")
        self.good("in a", "open a 0 1")
        self.good("in a", "close a 0 1")

    def test_all_sorts_together(self):
        self.good("in a", "in b", "relay r at 1", "relay s at 2 up 1", "lamp l at 3", "lamp m at 3",
                  "close r 0 1", "open a 0 1", "open s 1 2", "close b 2 3")

    def test_sorts_may_be_left_out(self):
        self.good("relay r at 1", "open r 0 1")
        self.good("in a", "lamp l at 0")
        self.good("lamp l at 0", "lamp m at 0")

    def test_words_of_the_text_are_names_too(self):
        self.good("in in", "relay relay at 1", "relay up at 1 up 2", "lamp lamp at 3", "lamp at at 4",
                  "open in 0 1", "close relay 0 1")

    def test_the_scheme_is_the_texts(self):
        text = lines("in a", "in b", "relay r at 1", "relay s at 2", "close b 0 1", "close a 0 2")
        self.assertEqual(ask(load(text), put(on(0)), UNSETTLED, put(on(1)), UNSETTLED),
                         [GOOD, [0, 1], [0, 1], [0, 2], [0, 0]])

    def test_delays_and_lamps_change_no_move(self):
        text = lines("relay r at 0 up 65535 down 1", "relay s at 0 down 3", "lamp l at 0")
        self.assertEqual(ask(load(text), UNSETTLED, put(2 ** 32 - 1)), [GOOD, [0, 0, 1], [0, on(16, 17)]])


class WhatLoadLeaves(Loading):
    HELD = (load(lines("in a", "relay r at 1", "close a 0 1")), put(on(0)))

    def test_a_good_load_begins_in_state_0(self):
        text = lines("in b", "relay s at 0")
        self.assertEqual(ask(*self.HELD, load(text), TOLD, UNSETTLED)[2:], [GOOD, [0, 0], [0, 0]])
        self.assertEqual(ask(*self.HELD, load(""), TOLD, put(1))[2:], [GOOD, [0, 0], [0, 0]])

    def test_after_a_fault_the_object_is_as_it_was(self):
        for text in ("in", "in b\nin b\n", "relay r at 1\nin a\n", "open a 0 1\n",
                     lines(*[f"in a{count}" for count in range(17)])):
            told = ask(*self.HELD, load(text), TOLD, UNSETTLED, put(2 ** 32 - 1))
            self.assertNotEqual(told[2], GOOD)
            self.assertEqual(told[3:], [[0, on(0)], [0, 0], [0, on(0, 16)]])

    def test_after_a_refusal_the_object_is_as_it_was(self):
        told = ask(*self.HELD, load([32] * 20001), TOLD, UNSETTLED, move(0), TOLD)
        self.assertEqual(told[2:], [[-1], [0, on(0)], [0, 0], [0, on(0, 16)], [0, on(0, 16)]])


class TheLength(Loading):
    def test_20000_bytes_are_read(self):
        self.assertEqual(last(load([10] * 20000)), [0, 1, 0])
        self.assertEqual(last(load("in a\n" * 4000)), [0, 3, 16])
        self.assertEqual(last(load([255] * 20000)), [0, 1, 0])

    def test_20001_bytes_are_refused(self):
        self.assertEqual(last(load([10] * 20001)), [-1])
        self.assertEqual(last(load("in a\n" * 4000 + "\n")), [-1])
        self.assertEqual(last(load([0] * 20100)), [-1])

    def test_a_line_of_20000_bytes(self):
        self.fault_of_text(1, 0, "a" * 19999 + "\n")
        self.fault_of_text(1, 0, "in " + "a" * 19996 + "\n")
        self.fault_of_text(1, 0, "lamp a at " + "9" * 19989 + "\n")
        self.fault_of_text(1, 0, "relay a at 1 up " + "9" * 19983 + "\n")
        self.fault_of_text(1, 0, " " * 19999 + "\n")


class Shapes(Loading):
    def test_ticks(self):
        for word in ("up", "down"):
            self.good(f"relay r at 1 {word} 1")
            self.good(f"relay r at 1 {word} 65535")
            self.misshapen(f"relay r at 1 {word} 0", f"relay r at 1 {word} 65536", f"relay r at 1 {word} 99999",
                           f"relay r at 1 {word} 100000", f"relay r at 1 {word} 01", f"relay r at 1 {word} 00",
                           f"relay r at 1 {word} -1", f"relay r at 1 {word}", f"relay r at 1 {word} x",
                           f"relay r at 1 {word} 1 {word} 1")
        self.good("relay r at 1 up 65535 down 65535")
        self.misshapen("relay r at 1 up 0 down 1", "relay r at 1 up 1 down 0", "relay r at 1 up 1 down 65536",
                       "relay r at 1 up 65536 down 1", "relay r at 1 down 1 up 1", "relay r at 1 up down 1",
                       "relay r at 1 up 1 down", "relay r at 1 up 1 1", "relay r at 1 1", "relay r at 1 up 1 down 1 up 1",
                       "relay r at 1 in 1", "relay r at 1 up1")

    def test_nodes(self):
        for row in ("relay r at {}", "lamp l at {}"):
            for node in ("0", "1", "9", "10", "62", "63"):
                self.good(row.format(node))
            for node in ("64", "65", "100", "00", "05", "063", "-1", "+1", "1a", "a", "1.0", "0x1", "1_0", ""):
                self.misshapen(row.format(node))
        self.good("in a", "close a 0 63", "open a 62 63", "open a 0 1", "open a 9 10")
        for word in ("open", "close"):
            self.misshapen(f"{word} a 0 64", f"{word} a 63 64", f"{word} a 64 65", f"{word} a 00 1",
                           f"{word} a 0 01", f"{word} a -1 1", f"{word} a a 1", f"{word} a 1 b")

    def test_two_nodes_of_a_contact(self):
        for word in ("open", "close"):
            self.misshapen(f"{word} a 0 0", f"{word} a 63 63", f"{word} a 1 0", f"{word} a 10 9", f"{word} a 63 0")

    def test_names(self):
        for name in ("a", "z", "a0", "z9", "abcdefghijkl", "a12345678901", "zzzzzzzzzzzz"):
            self.good(f"in {name}", f"close {name} 0 1")
            self.good(f"relay {name} at 1", f"open {name} 0 1")
            self.good(f"lamp {name} at 1")
        for name in ("abcdefghijklm", "a123456789012", "0", "9a", "A", "aB", "a_b", "a-b", "a.", "?", "a?", "\xe9",
                     "a\xe9", "\xb2", "a\xb2", "a\t", "a\r", "a\x00", "\x00", "`", "{", "a/", "a:", "@", "["):
            self.misshapen(f"in {name}", f"relay {name} at 1", f"lamp {name} at 1", f"open {name} 0 1",
                           f"close {name} 0 1")

    def test_digits_that_are_none(self):
        self.misshapen("lamp l at \xb2", "lamp l at 1\xb2", "lamp l at /", "lamp l at :", "lamp l at 1?")

    def test_blanks(self):
        self.misshapen("in  b", " in b", "in b ", "in\tb", "in", "in ", "", " ", "relay  r at 1", "relay r  at 1",
                       "relay r at  1", "relay r at 1 ", "relay r at 1  up 1", "relay r at 1 up  1", "lamp l at 1 ",
                       " lamp l at 1", "lamp l  at 1", "open a  0 1", "open a 0  1", "open a 0 1 ", " close a 0 1",
                       "in\xa0b", "close a 0 1\r")

    def test_words(self):
        self.misshapen("out b", "In b", "ins b", "i b", "b", "in b c", "in b at 1", "relay r", "relay r at",
                       "relay r on 1", "relay at 1", "relay r 1", "lamp l", "lamp l at", "lamp l in 1", "lamp l 1",
                       "lamp l at 1 up 1", "lamp l at 1 2", "open a", "open a 0", "open a 0 1 2", "close a at 0 1",
                       "opens a 0 1", "closer a 0 1", "contact a 0 1", "relay", "lamp", "open", "close")

    def test_an_empty_line(self):
        self.fault_of_text(1, 0, "\n")
        self.fault_of_text(1, 1, "in a\n\nin b\n")
        self.fault_of_text(1, 2, "in a\nin b\n\n")

    def test_a_last_line_without_byte_10(self):
        self.fault_of_text(1, 0, "in a")
        self.fault_of_text(1, 1, "in a\nin b")
        self.fault_of_text(1, 1, "in a\n ")
        self.fault_of_text(1, 0, "x")
        self.fault_of_text(1, 1, "in a\nclose a 0 1")

    def test_each_byte_that_is_of_no_line(self):
        for byte in range(256):
            whole = byte == 10 or chr(byte).isascii() and (chr(byte).islower() or chr(byte).isdigit())
            told = last(load(list(b"in a") + [byte] + list(b"\n")))
            self.assertEqual(told, [0, 1, 1] if byte == 10 else GOOD if whole else [0, 1, 0], byte)

    def test_the_first_line_of_no_shape(self):
        self.fault(1, 2, "in a", "in b", "in", "out", "in c", "x")


class Order(Loading):
    ROWS = ("in a", "relay r at 1", "lamp l at 1", "open a 0 1")

    def test_each_sort_behind_a_later_one(self):
        for later in range(4):
            for earlier in range(later):
                self.fault(2, 1, self.ROWS[later], self.ROWS[earlier])

    def test_not_next_to_one_another(self):
        self.fault(2, 2, "in a", "lamp l at 1", "in b", "close a 0 1", "in c")
        self.fault(2, 3, "in a", "relay r at 1", "close a 0 1", "relay s at 1")

    def test_the_first_of_several(self):
        self.fault(2, 1, "lamp l at 1", "relay r at 1", "in a")
        self.fault(2, 2, "relay r at 1", "lamp l at 1", "in a", "relay s at 1")


class Room(Loading):
    def test_inputs(self):
        rows = [f"in a{count}" for count in range(17)]
        self.good(*rows[:16])
        self.fault(3, 16, *rows)
        self.fault(3, 16, *rows, "in b", "relay r at 1")

    def test_relays(self):
        rows = [f"relay r{count} at 1" for count in range(13)]
        self.good(*rows[:12])
        self.fault(3, 12, *rows)
        self.fault(3, 13, "in a", *rows, "relay s at 1")

    def test_lamps(self):
        rows = [f"lamp l{count} at 1" for count in range(17)]
        self.good(*rows[:16])
        self.fault(3, 16, *rows)
        self.fault(3, 17, "in a", *rows, "lamp m at 1")

    def test_contacts(self):
        rows = ["open a 0 1", "close a 0 1"] * 128
        self.good("in a", *rows)
        self.fault(3, 257, "in a", *rows, "open a 0 1")
        self.fault(3, 257, "in a", *rows, "close a 0 1", "close a 0 1")

    def test_all_full(self):
        rows = ([f"in a{count}" for count in range(16)] + [f"relay r{count} at 1" for count in range(12)]
                + [f"lamp l{count} at 1" for count in range(16)] + ["close r11 0 1"] * 256)
        self.good(*rows)
        self.fault(3, 300, *rows, "open a15 0 1")

    def test_the_first_of_several(self):
        self.fault(3, 12, *[f"relay r{count} at 1" for count in range(13)], *[f"lamp l{count} at 1" for count in range(17)])


class NamesAgain(Loading):
    def test_within_a_sort_and_across(self):
        rows = ("in a", "relay a at 1", "lamp a at 1")
        for first in range(3):
            for second in range(first, 3):
                self.fault(4, 1, rows[first], rows[second])

    def test_not_next_to_one_another(self):
        self.fault(4, 3, "in a", "relay b at 1", "relay c at 1", "lamp a at 1", "lamp b at 1")

    def test_contacts_give_no_name(self):
        self.good("in a", "open a 0 1", "open a 0 1", "close a 0 1")

    def test_names_that_begin_alike(self):
        self.good("in a", "in aa", "in a0", "relay a00 at 1", "lamp aaa at 1")


class NamesUnknown(Loading):
    def test_a_name_that_nothing_has(self):
        self.fault(5, 0, "open a 0 1")
        self.fault(5, 1, "in a", "close b 0 1")
        self.fault(5, 2, "in a", "open a 0 1", "open aa 0 1", "close b 0 1")

    def test_a_lamps_name(self):
        self.fault(5, 2, "in a", "lamp l at 1", "close l 0 1")

    def test_an_inputs_and_a_relays_name(self):
        self.good("in a", "relay r at 1", "lamp l at 1", "close a 0 1", "close r 0 1")


class SeveralFaults(Loading):
    def test_the_least_kind_wherever_it_stands(self):
        inputs = [f"in a{count}" for count in range(17)]
        self.fault(1, 4, "lamp l at 1", "in l", "in l", "open x 0 1", "in")
        self.fault(2, 20, *inputs, "in a0", "open x 0 1", "open y 0 1", "in b")
        self.fault(3, 16, "in a0", *inputs, "open x 0 1")
        self.fault(4, 2, "in a", "in b", "in a", "open x 0 1")
        self.fault(4, 3, "in a", "in b", "lamp l at 1", "lamp b at 1", "open l 0 1")

    def test_kind_1_behind_the_last_byte_10(self):
        self.fault_of_text(1, 2, "in a\nin a\nin a")

    def test_texts_at_random_against_a_second_telling(self):
        source = random.Random(20261116)
        for count in range(3000):
            text = random_text(source)
            kind, line = plain_fault(text)
            self.assertEqual(last(load(text)), [0, kind, line], text)


def random_row(source, sort):
    name = source.choice("abcdefgh") + source.choice(("", "", "1", "2", "23"))
    node = source.choice((0, 1, 2, 63, 63, source.choice((64, 3))))
    if sort == 0:
        return f"in {name}"
    if sort == 1:
        up = source.choice(("", "", f" up {source.choice((1, 5, 65535, 65535, source.choice((0, 65536, 9))))}"))
        return f"relay {name} at {node}{up}" + source.choice(("", "", " down 7"))
    if sort == 2:
        return f"lamp {name} at {node}"
    nodes = sorted(source.sample(range(64), 2), reverse=source.random() < 0.02)
    return f"{source.choice(('open', 'close'))} {name} {nodes[0]} {nodes[1]}"


def random_text(source):
    sorts = sorted(source.randrange(4) for count in range(source.randrange(12)))
    if source.random() < 0.2:
        sorts = sorted(sorts + [source.randrange(3)] * source.randrange(8, 20))
    if source.random() < 0.2:
        source.shuffle(sorts)
    text = lines(*[random_row(source, sort) for sort in sorts])
    if text and source.random() < 0.1:
        place = source.randrange(len(text))
        text = text[:place] + source.choice(("", " ", "\n", "0", "A")) + text[place + source.randrange(2):]
    return text


if __name__ == "__main__":
    unittest.main()
