"""The largest nets, very many ways, and words of 16 bytes: each call ends, and answers as told."""

import itertools
import unittest

from asking import AGAIN, ARC, BEHIND, ENDLESS, FOLLOW, HOLDS, KEEP, LATER, NEXT, SIZE, TURN
from asking import built, last_of, next_word, numbers_after, told_of, word_of, words_into

LETTERS = "abcdefghijkl"
FULL = b"x" * 16


def largest(reads, finals, writes=LETTERS):
    """24 states and 300 arcs: round all the states with each of these letters, and the rest at single states."""
    arcs = [(at, reads, letter, (at + 1) % 24) for at in range(24) for letter in writes]
    arcs += [(at, reads, "m", at) for at in range(300 - len(arcs))]
    return built(0, 24, finals, arcs)


class LargestTest(unittest.TestCase):
    def test_it_is_as_large_as_may_be(self):
        calls = largest("x", [16])
        self.assertEqual(told_of(calls + [(SIZE, 0)])[-1], [0, 2, 24, 300, 0])

    def test_asked_again_and_again_by_later(self):
        calls = largest("x", [16])
        due = [b"a" * 13 + bytes(word) for word in itertools.product(LETTERS.encode(), repeat=3)][:70]
        self.assertEqual(words_into(calls, 0, FULL, most=70), due)
        told = told_of(calls + [(NEXT, 0, FULL)] + [(LATER, 0, FULL, word) for word in due[:-1]])
        self.assertEqual([word_of(answer) for answer in told[len(calls):]], due)

    def test_the_last_of_very_many_answers(self):
        calls = largest("x", [16])
        asked = [(LATER, 0, FULL, p) for p in (b"l" * 15 + b"k", b"l" * 16, b"k" + b"l" * 15, b"\xff" * 16)]
        told = told_of(calls + asked)[len(calls):]
        self.assertEqual([word_of(answer) for answer in told], [b"l" * 16, None, b"l" + b"a" * 15, None])

    def test_arcs_that_read_nothing(self):
        calls = largest("", [16, 0])
        self.assertEqual(next_word(calls, 0, b""), b"")
        self.assertEqual(word_of(told_of(calls + [(LATER, 0, b"", b"")])[-1]), b"m")
        self.assertEqual(last_of(calls + [(ENDLESS, 0, b"")]), 1)
        self.assertEqual(last_of(calls + [(HOLDS, 0, b"", b"mm" + b"l" * 14)]), 0)
        self.assertEqual(last_of(calls + [(HOLDS, 0, b"", b"l" * 16)]), 1)

    def test_arcs_that_write_nothing(self):
        # Between an even and an odd state a byte is read, so yz, which reads one, is written an even number of times.
        arcs = [(start, "x" if (start + to) % 2 else "", "", to) for start in range(17) for to in range(17)]
        calls = built(0, 24, [16], arcs + [(16, "", "y", 17)] + [(17, "x", "z", 16)] * 10)
        self.assertEqual(words_into(calls, 0, FULL), [b"yzyz" * count for count in range(5)])
        self.assertEqual(numbers_after(calls, [(HOLDS, 0, FULL, b"yz" * 8), (ENDLESS, 0, FULL)]), [1, 0])

    def test_made_machines_of_the_largest_size(self):
        calls = largest("x", [16]) + [(KEEP, 1, 0), (TURN, 1)]
        self.assertEqual(words_into(calls, 1, FULL), [FULL])
        self.assertEqual(told_of(calls + [(SIZE, 1)])[-1], [0, 2, 24, 300, 0])
        parts = built(0, 4, [3], [(at, "x", letter, (at + 1) % 4) for at in range(4) for letter in "ab"])
        second = built(1, 6, [5], [(at, letter, letter, (at + 1) % 6) for at in range(6) for letter in "ab"])
        calls = parts + second + [(BEHIND, 2, 0, 1)]
        self.assertEqual(told_of(calls + [(SIZE, 2)])[-1], [0, 2, 24, 8 * 12 + 8 * 6 + 4 * 12, 0])
        due = [b"a" * 3 + bytes(word) for word in itertools.product(b"ab", repeat=8)]
        self.assertEqual(words_into(calls, 2, b"x" * 11, most=256), due)
        self.assertEqual(words_into(calls, 2, b"x" * 12), [])


class NothingTest(unittest.TestCase):
    """Very many ways that lead to nothing, and the one that leads to something."""

    def test_ways_that_read_all_and_end_nowhere(self):
        arcs = [(start, "x", letter, to) for start in range(12) for to in range(12) for letter in "ab"]
        calls = built(0, 13, [12], arcs)
        self.assertEqual(told_of(calls + [(NEXT, 0, FULL), (LATER, 0, FULL, b"b" * 8)])[-2:], [[-4], [-4]])
        asked = [(HOLDS, 0, FULL, b"ab" * 8), (ENDLESS, 0, FULL)]
        self.assertEqual(numbers_after(calls, asked), [0, 0])
        calls.append((ARC, 0, 11, ord("x"), ord("c"), 12))
        self.assertEqual(words_into(calls, 0, FULL, most=2), [b"a" * 15 + b"c", b"a" * 14 + b"bc"])

    def test_ways_that_need_one_byte_more(self):
        arcs = [(at, "x", letter, at + 1) for at in range(17) for letter in "abcdefgh"]
        calls = built(0, 18, [17], arcs)
        self.assertEqual(last_of(calls + [(NEXT, 0, FULL)]), -4)
        self.assertEqual(last_of(calls + [(HOLDS, 0, FULL, b"a" * 16)]), 0)
        self.assertEqual(next_word(calls + [(AGAIN, 1, 0)], 1, b""), b"")
        self.assertEqual(last_of(calls + [(AGAIN, 1, 0), (NEXT, 1, FULL)]), -4)

    def test_the_last_byte_alone_decides(self):
        arcs = [(0, "", "a", 0), (0, "", "b", 0), (0, "", "b", 1)]
        arcs += [(at, "", letter, at + 1) for at in range(1, 16) for letter in "ab"]
        # Its words are those whose sixteenth byte from the end is b: each set of states is told apart.
        calls = built(0, 17, [16], arcs)
        told = told_of(calls + [(NEXT, 0, b""), (LATER, 0, b"", b"b" + b"ab" * 7 + b"a"), (LATER, 0, b"", b"b" * 16)])
        due = [b"b" + b"a" * 15, b"b" + b"ab" * 7 + b"b", None]
        self.assertEqual([word_of(answer) for answer in told[len(calls):]], due)

    def test_each_word_in_very_many_ways(self):
        arcs = [(start, "", letter, to) for start in range(8) for to in range(8) for letter in "ab"]
        calls = built(0, 8, [7], arcs)
        due = [bytes(word) for length in range(1, 7) for word in itertools.product(b"ab", repeat=length)]
        self.assertEqual(words_into(calls, 0, b"", most=len(due)), due)
        self.assertEqual(numbers_after(calls, [(HOLDS, 0, b"", b"ab" * 8), (HOLDS, 0, b"", b"abac" * 4)]), [1, 0])

    def test_silent_ways_without_number(self):
        arcs = [(start, "", "", to) for start in range(16) for to in range(16) if start != to]
        calls = built(0, 18, [17], arcs + [(15, "x", "", 0), (15, "y", "z", 17)])
        self.assertEqual(words_into(calls, 0, b"x" * 15 + b"y"), [b"z"])
        self.assertEqual(words_into(calls, 0, FULL), [])
        self.assertEqual(numbers_after(calls, [(HOLDS, 0, b"x" * 15 + b"y", b"z"), (ENDLESS, 0, b"xy")]), [1, 0])

    def test_made_machines_that_lead_to_nothing(self):
        star = built(0, 1, [0], [(0, "x", "a", 0), (0, "", "a", 0)])
        calls = star + [(FOLLOW, 1, 0, 0), (FOLLOW, 1, 1, 1), (FOLLOW, 1, 1, 1), (AGAIN, 1, 1)]
        calls += built(3, 2, [1], [(0, "y", "b", 1)]) + [(FOLLOW, 2, 1, 3)]
        self.assertEqual(told_of(calls)[-1], [0])
        self.assertEqual(last_of(calls + [(NEXT, 2, FULL)]), -4)
        self.assertEqual(word_of(told_of(calls + [(NEXT, 2, b"x" * 15 + b"y")])[-1]), b"a" * 15 + b"b")
        self.assertEqual(last_of(calls + [(ENDLESS, 2, FULL)]), 0)
        self.assertEqual(last_of(calls + [(ENDLESS, 2, b"x" * 15 + b"y")]), 1)


if __name__ == "__main__":
    unittest.main()
