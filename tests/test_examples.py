"""The document's two examples, and next and later: the order, the bytes, and where the answers end."""

import itertools
import unittest

from asking import ARC, BEHIND, ENDLESS, FINAL, HOLDS, JOIN, LATER, NEW, NEXT
from asking import built, last_of, later_word, next_word, numbers_after, told_of, word_net, words_into

# Turns each a into b, and writes one c or more at the end.
LONG = built(0, 3, [2], [(0, "a", "b", 0), (0, "", "c", 2), (2, "", "c", 2)])
# Drops b, and turns c into d.
DROPS = built(1, 1, [0], [(0, "b", "", 0), (0, "c", "d", 0)])


class ExamplesTest(unittest.TestCase):
    def test_the_first(self):
        due = [b"bb" + b"c" * count for count in range(1, 15)]
        self.assertEqual(words_into(LONG, 0, b"aa"), due)
        self.assertEqual(len(due[-1]), 16)
        self.assertEqual(told_of(LONG + [(LATER, 0, b"aa", due[-1])])[-1], [-4])

    def test_one_behind_another(self):
        calls = LONG + DROPS + [(BEHIND, 2, 0, 1)]
        due = [b"d" * count for count in range(1, 17)]
        self.assertEqual(words_into(calls, 2, b"aaa"), due)
        self.assertEqual(told_of(calls + [(LATER, 2, b"aaa", due[-1])])[-1], [-4])

    def test_what_they_turn_into_what(self):
        calls = LONG + DROPS + [(BEHIND, 2, 0, 1)]
        yes = [(0, b"", b"c"), (0, b"aa", b"bbccc"), (1, b"bcb", b"d"), (1, b"", b""),
               (2, b"aaa", b"d"), (2, b"", b"ddd")]
        no = [(0, b"aa", b"bb"), (0, b"aa", b"bc"), (0, b"b", b"bc"), (1, b"a", b""), (2, b"aaa", b""), (2, b"b", b"d")]
        self.assertEqual(numbers_after(calls, [(HOLDS,) + asked for asked in yes]), [1] * len(yes))
        self.assertEqual(numbers_after(calls, [(HOLDS,) + asked for asked in no]), [0] * len(no))

    def test_words_without_end(self):
        calls = LONG + DROPS + [(BEHIND, 2, 0, 1)]
        asked = [(0, b"aa"), (0, b""), (2, b"aaa"), (0, b"ab"), (1, b"bcb"), (1, b""), (2, b"c")]
        self.assertEqual(numbers_after(calls, [(ENDLESS,) + one for one in asked]), [1, 1, 1, 0, 0, 0, 0])


def some_words(place, words):
    """A net that turns the empty word into each of these words; they share the state at their end."""
    calls, states = [], 2
    for word in words:
        at = 0
        for place_of_byte, label in enumerate(word):
            last = place_of_byte == len(word) - 1
            calls.append((at, -1, label, 1 if last else states))
            at = states
            states += not last
    return built(place, states, [1] + [0] * (b"" in words), calls)


def in_order(words):
    return sorted(words, key=lambda word: (len(word), word))


class OrderTest(unittest.TestCase):
    def test_the_shorter_first_then_the_smaller_byte(self):
        words = [b"\xff", b"\x00\x00", b"\x00", b"", b"ba", b"ab", b"b", b"aaa", b"\xff\x00\x00", b"\x00\xff\xff"]
        due = [b"", b"\x00", b"b", b"\xff", b"\x00\x00", b"ab", b"ba", b"\x00\xff\xff", b"aaa", b"\xff\x00\x00"]
        self.assertEqual(words_into(some_words(0, words), 0, b""), due)

    def test_the_order_of_the_arcs_makes_no_difference(self):
        words = [b"ba", b"ab", b"bb", b"aa", b"b", b"a"]
        for order in itertools.permutations(words):
            self.assertEqual(words_into(some_words(0, order), 0, b""), in_order(words))

    def test_the_first_place_where_they_differ(self):
        words = [b"abz", b"acy", b"abx", b"bax", b"aza"]
        self.assertEqual(words_into(some_words(0, words), 0, b""), [b"abx", b"abz", b"acy", b"aza", b"bax"])

    def test_a_smaller_byte_that_leads_nowhere(self):
        calls = built(0, 4, [3], [(0, "", "a", 1), (1, "", "a", 1), (0, "", "b", 2), (2, "", "b", 3), (2, "", "a", 1)])
        self.assertEqual(words_into(calls, 0, b""), [b"bb"])

    def test_a_smaller_byte_that_leads_to_longer_words_alone(self):
        calls = built(0, 5, [4], [(0, "", "a", 1), (1, "", "a", 2), (2, "", "a", 4), (0, "", "b", 3), (3, "", "b", 4)])
        self.assertEqual(words_into(calls, 0, b""), [b"bb", b"aaa"])

    def test_each_answer_once_however_many_ways(self):
        arcs = [(start, "", letter, to) for start in range(3) for to in range(3) for letter in "ab"] * 2
        calls = built(0, 3, [0, 1, 2], arcs)
        due = [bytes(word) for length in range(6) for word in itertools.product(b"ab", repeat=length)]
        self.assertEqual(words_into(calls, 0, b"", most=len(due)), due)

    def test_the_bytes_0_and_255(self):
        calls = built(0, 1, [0], [(0, 0, 255, 0), (0, 255, 0, 0), (0, 255, -1, 0), (0, 0, 0, 0)])
        self.assertEqual(words_into(calls, 0, b"\x00"), [b"\x00", b"\xff"])
        self.assertEqual(words_into(calls, 0, b"\xff"), [b"", b"\x00"])
        due = [b"\x00", b"\xff", b"\x00\x00", b"\x00\xff"]
        self.assertEqual(words_into(calls, 0, b"\xff\x00"), due)
        self.assertEqual(numbers_after(calls, [(HOLDS, 0, b"\x00\xff", b"\xff\x00"), (HOLDS, 0, b"\x00", b"")]), [1, 0])

    def test_all_bytes(self):
        calls = built(0, 2, [1], [(0, "a", label, 1) for label in range(255, -1, -1)])
        told = told_of(calls + [(NEXT, 0, b"a")] + [(LATER, 0, b"a", bytes([label])) for label in range(0, 256, 3)])
        due = [[1, 0, 1, 0]] + [[1, 0, 1, label + 1] for label in range(0, 255, 3)] + [[-4]]
        self.assertEqual(told[len(calls):], due)


class LaterTest(unittest.TestCase):
    WORDS = [b"", b"b", b"d", b"bb", b"bd", b"db", b"ddd", b"b" * 16]

    def setUp(self):
        self.calls = some_words(0, self.WORDS)

    def after(self, p):
        return later_word(self.calls, 0, b"", p)

    def test_of_each_answer(self):
        self.assertEqual(words_into(self.calls, 0, b""), self.WORDS)

    def test_of_the_empty_word(self):
        self.assertEqual(self.after(b""), b"b")
        self.assertEqual(later_word(word_net(0, b"a", b""), 0, b"a", b""), None)
        self.assertEqual(later_word(word_net(0, b"a", b"b"), 0, b"a", b""), b"b")

    def test_of_a_word_that_is_no_answer(self):
        for p, due in ((b"a", b"b"), (b"c", b"d"), (b"e", b"bb"), (b"\xff", b"bb"), (b"aa", b"bb"), (b"bc", b"bd"),
                       (b"ba", b"bb"), (b"bz", b"db"), (b"ca", b"db"), (b"dc", b"ddd"), (b"\x00\x00\x00", b"ddd"),
                       (b"ddc", b"ddd"), (b"dcz", b"ddd"), (b"dde", b"b" * 16), (b"z" * 15, b"b" * 16),
                       (b"\xff" * 15, b"b" * 16), (b"a" * 16, b"b" * 16), (b"b" * 15 + b"a", b"b" * 16)):
            self.assertEqual(self.after(p), due, p)

    def test_of_a_word_of_16_bytes(self):
        for p in (b"b" * 16, b"b" * 15 + b"c", b"c" + b"a" * 15, b"\xff" * 16):
            self.assertEqual(self.after(p), None, p)
        calls = built(0, 1, [0], [(0, "", "a", 0), (0, "", "c", 0)])
        self.assertEqual(later_word(calls, 0, b"", b"a" * 16), b"a" * 15 + b"c")
        self.assertEqual(later_word(calls, 0, b"", b"a" + b"c" * 15), b"c" + b"a" * 15)
        self.assertEqual(later_word(calls, 0, b"", b"abcb" * 4), b"ac" + b"a" * 14)
        self.assertEqual(later_word(calls, 0, b"", b"c" * 16), None)

    def test_where_only_longer_words_come_after(self):
        # Its words have 15 bytes, 17 bytes, 19 bytes, and so on.
        arcs = [(at, "", "a", at + 1) for at in range(17)] + [(17, "", "a", 16)]
        calls = built(0, 18, [15, 17], arcs)
        self.assertEqual(words_into(calls, 0, b""), [b"a" * 15])
        self.assertEqual(last_of(calls + [(LATER, 0, b"", b"a" * 16)]), -4)
        self.assertEqual(last_of(calls + [(ENDLESS, 0, b"")]), 1)

    def test_where_all_words_are_longer(self):
        calls = built(0, 18, [17], [(at, "", "a", at + 1) for at in range(17)])
        self.assertEqual(last_of(calls + [(NEXT, 0, b"")]), -4)
        self.assertEqual(last_of(calls + [(LATER, 0, b"", b"")]), -4)
        self.assertEqual(next_word(calls + [(FINAL, 0, 16, 1)], 0, b""), b"a" * 16)

    def test_of_a_word_whose_beginning_is_no_beginning_of_an_answer(self):
        self.assertEqual(self.after(b"xyz"), b"b" * 16)
        self.assertEqual(self.after(b"xy"), b"ddd")
        self.assertEqual(self.after(b"ax"), b"bb")

    def test_none_at_all(self):
        for calls in ([(NEW, 0)], built(0, 2, [], [(0, "a", "b", 1)]), built(0, 2, [1], [(0, "a", "b", 0)])):
            self.assertEqual(told_of(calls + [(NEXT, 0, b"a"), (LATER, 0, b"a", b"")])[-2:], [[-4], [-4]])
        calls = built(0, 2, [1], [(0, "a", "b", 1)])
        self.assertEqual(told_of(calls + [(NEXT, 0, b"b"), (NEXT, 0, b""), (NEXT, 0, b"aa")])[-3:], [[-4]] * 3)

    def test_asked_in_any_order(self):
        calls = self.calls + [(LATER, 0, b"", word) for word in reversed(self.WORDS)]
        due = [None] + self.WORDS[:0:-1]
        told = told_of(calls)[len(self.calls):]
        self.assertEqual([bytes(answer[3:]) if answer != [-4] else None for answer in told], due)

    def test_while_a_net_is_built_on(self):
        calls = built(0, 2, [1], [(0, "a", "b", 1)])
        calls += [(NEXT, 0, b"a"), (ARC, 0, 0, 97, 97, 1), (NEXT, 0, b"a"), (FINAL, 0, 1, 0), (NEXT, 0, b"a"),
                  (FINAL, 0, 0, 1), (NEXT, 0, b"a"), (NEXT, 0, b""), (JOIN, 0, 0, 0), (NEXT, 0, b"")]
        told = [answer for call, answer in zip(calls, told_of(calls)) if call[0] == NEXT]
        self.assertEqual(told, [[1, 0, 1, 98], [1, 0, 1, 97], [-4], [-4], [0], [0]])


if __name__ == "__main__":
    unittest.main()
