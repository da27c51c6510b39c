"""holds and endless, and nets with circles of each sort and with parts that lead nowhere."""

import unittest

from asking import ENDLESS, FINAL, HOLDS, LATER, NEXT, TURN
from asking import built, last_of, numbers_after, told_of, words_into


class HoldsTest(unittest.TestCase):
    def holds(self, calls, x, y):
        return last_of(calls + [(HOLDS, 0, x, y)])

    def test_plain(self):
        calls = built(0, 3, [2], [(0, "a", "x", 1), (1, "b", "", 1), (1, "", "y", 2)])
        for x, y in ((b"a", b"xy"), (b"ab", b"xy"), (b"abbb", b"xy"), (b"a" + b"b" * 15, b"xy")):
            self.assertEqual(self.holds(calls, x, y), 1)
        for x, y in ((b"a", b"x"), (b"a", b"yx"), (b"a", b"xyy"), (b"b", b"xy"), (b"", b"xy"), (b"aa", b"xy"),
                     (b"ba", b"xy"), (b"a", b""), (b"", b""), (b"xy", b"a")):
            self.assertEqual(self.holds(calls, x, y), 0)

    def test_the_empty_word(self):
        calls = built(0, 1, [0], [(0, "a", "", 0), (0, "", "b", 0)])
        for x, y in ((b"", b""), (b"a", b""), (b"", b"b"), (b"aa", b"bb")):
            self.assertEqual(self.holds(calls, x, y), 1)
        self.assertEqual(self.holds(built(0, 1, [], []), b"", b""), 0)
        self.assertEqual(self.holds(built(0, 2, [1], [(0, "", "", 1)]), b"", b""), 1)
        self.assertEqual(self.holds(built(0, 2, [1], [(0, "a", "", 1)]), b"", b""), 0)
        self.assertEqual(self.holds(built(0, 2, [1], [(0, "", "a", 1)]), b"", b""), 0)

    def test_sixteen_bytes(self):
        calls = built(0, 1, [0], [(0, "a", "b", 0)])
        self.assertEqual(self.holds(calls, b"a" * 16, b"b" * 16), 1)
        self.assertEqual(self.holds(calls, b"a" * 16, b"b" * 15), 0)
        self.assertEqual(self.holds(calls, b"a" * 15, b"b" * 16), 0)
        self.assertEqual(self.holds(calls, b"a" * 15 + b"b", b"b" * 16), 0)

    def test_a_way_must_read_and_write_in_order(self):
        calls = built(0, 3, [2], [(0, "a", "b", 1), (1, "b", "a", 2)])
        self.assertEqual(self.holds(calls, b"ab", b"ba"), 1)
        self.assertEqual(self.holds(calls, b"ba", b"ba"), 0)
        self.assertEqual(self.holds(calls, b"ab", b"ab"), 0)

    def test_two_ways_are_not_mixed(self):
        arcs = [(0, "a", "x", 1), (1, "a", "x", 3), (0, "a", "y", 2), (2, "a", "y", 3)]
        calls = built(0, 4, [3], arcs)
        self.assertEqual([self.holds(calls, b"aa", y) for y in (b"xx", b"yy", b"xy", b"yx")], [1, 1, 0, 0])

    def test_the_bytes_0_and_255(self):
        calls = built(0, 2, [1], [(0, 0, 255, 1), (1, 255, 0, 0)])
        self.assertEqual(self.holds(calls, b"\x00\xff\x00", b"\xff\x00\xff"), 1)
        self.assertEqual(self.holds(calls, b"\xff\x00\xff", b"\x00\xff\x00"), 0)

    def test_a_state_that_is_final_no_more(self):
        calls = built(0, 2, [1], [(0, "a", "b", 1)])
        self.assertEqual(self.holds(calls + [(FINAL, 0, 1, 0)], b"a", b"b"), 0)
        self.assertEqual(self.holds(calls + [(FINAL, 0, 1, 0), (FINAL, 0, 1, 9)], b"a", b"b"), 1)


class EndlessTest(unittest.TestCase):
    def endless(self, calls, x):
        return last_of(calls + [(ENDLESS, 0, x)])

    def test_a_circle_on_a_way_to_an_end(self):
        calls = built(0, 4, [3], [(0, "a", "", 1), (1, "", "b", 2), (2, "", "", 1), (1, "a", "", 3)])
        self.assertEqual(self.endless(calls, b"aa"), 1)
        self.assertEqual([self.endless(calls, x) for x in (b"", b"a", b"aaa", b"ab", b"ba")], [0] * 5)

    def test_an_arc_from_a_state_to_itself(self):
        for at in range(3):
            calls = built(0, 3, [2], [(0, "a", "b", 1), (1, "a", "b", 2), (at, "", "c", at)])
            self.assertEqual([self.endless(calls, x) for x in (b"aa", b"a", b"")], [1, 0, 0])

    def test_at_the_first_state_alone(self):
        calls = built(0, 1, [0], [(0, "", "b", 0)])
        self.assertEqual([self.endless(calls, x) for x in (b"", b"a")], [1, 0])

    def test_a_circle_that_leads_nowhere(self):
        calls = built(0, 3, [1], [(0, "a", "b", 1), (0, "", "", 2), (2, "", "c", 2)])
        self.assertEqual(self.endless(calls, b"a"), 0)
        self.assertEqual(words_into(calls, 0, b"a"), [b"b"])

    def test_a_circle_that_is_never_come_to(self):
        calls = built(0, 3, [1], [(0, "a", "b", 1), (2, "", "c", 2), (2, "", "", 1)])
        self.assertEqual(self.endless(calls, b"a"), 0)
        self.assertEqual(words_into(calls, 0, b"a"), [b"b"])

    def test_a_circle_that_is_come_to_by_other_words_alone(self):
        calls = built(0, 3, [1], [(0, "a", "b", 1), (0, "b", "", 2), (2, "", "c", 2), (2, "", "", 1)])
        self.assertEqual([self.endless(calls, x) for x in (b"a", b"b")], [0, 1])

    def test_a_circle_that_comes_to_an_end_too_late_or_too_soon(self):
        calls = built(0, 3, [2], [(0, "a", "b", 1), (1, "", "c", 1), (1, "a", "b", 2)])
        self.assertEqual([self.endless(calls, x) for x in (b"a", b"aa", b"aaa")], [0, 1, 0])

    def test_a_circle_that_reads(self):
        calls = built(0, 2, [1], [(0, "a", "b", 0), (0, "a", "b", 1), (1, "a", "c", 1)])
        self.assertEqual([self.endless(calls, b"a" * count) for count in (1, 2, 16)], [0, 0, 0])
        calls = built(0, 3, [0], [(0, "", "b", 1), (1, "", "b", 2), (2, "a", "", 0)])
        self.assertEqual([self.endless(calls, b"a" * count) for count in (0, 1, 5)], [0, 0, 0])

    def test_a_circle_that_writes_nothing(self):
        calls = built(0, 2, [1], [(0, "", "", 0), (0, "a", "b", 1), (1, "", "", 0)])
        self.assertEqual([self.endless(calls, b"a" * count) for count in (0, 1, 2)], [0, 0, 0])

    def test_an_arc_that_writes_beside_a_silent_circle(self):
        calls = built(0, 3, [2], [(0, "", "", 1), (1, "", "", 0), (1, "", "b", 2)])
        self.assertEqual(self.endless(calls, b""), 0)
        calls = built(0, 3, [2], [(0, "", "", 1), (1, "", "b", 0), (1, "", "", 2)])
        self.assertEqual(self.endless(calls, b""), 1)

    def test_words_of_any_length_count(self):
        # The circle writes seventeen bytes in a round, so hardly an answer is short enough for next.
        arcs = [(at, "", "a", at + 1) for at in range(16)] + [(16, "", "a", 0)]
        calls = built(0, 17, [0], arcs)
        self.assertEqual(self.endless(calls, b""), 1)
        self.assertEqual(words_into(calls, 0, b""), [b""])

    def test_many_words_are_not_endless(self):
        calls = built(0, 17, [16], [(at, "", letter, at + 1) for at in range(16) for letter in "abcdefgh"])
        self.assertEqual(self.endless(calls, b""), 0)

    def test_turned_round(self):
        calls = built(0, 1, [0], [(0, "b", "", 0)])
        self.assertEqual(self.endless(calls, b"b"), 0)
        self.assertEqual(self.endless(calls + [(TURN, 0)], b""), 1)
        self.assertEqual(self.endless(calls + [(TURN, 0), (TURN, 0)], b"b"), 0)


class CirclesTest(unittest.TestCase):
    """What each of the calls answers of nets whose ways may go round."""

    def answered(self, calls, x, words, endless, no=(b"z",)):
        self.assertEqual(words_into(calls, 0, x), words)
        self.assertEqual(numbers_after(calls, [(HOLDS, 0, x, word) for word in words]), [1] * len(words))
        self.assertEqual(numbers_after(calls, [(HOLDS, 0, x, word) for word in no]), [0] * len(no))
        self.assertEqual(last_of(calls + [(ENDLESS, 0, x)]), endless)

    def test_that_reads_nothing(self):
        calls = built(0, 3, [0], [(0, "", "x", 1), (1, "", "", 2), (2, "", "y", 0), (0, "a", "z", 0)])
        self.answered(calls, b"", [b"xy" * count for count in range(9)], 1)
        calls = built(0, 3, [2], [(0, "a", "", 1), (1, "", "x", 1), (1, "b", "", 2)])
        self.answered(calls, b"ab", [b"x" * count for count in range(17)], 1)
        self.answered(calls, b"a", [], 0)

    def test_that_writes_nothing(self):
        calls = built(0, 3, [1], [(0, "a", "", 1), (1, "a", "", 2), (2, "b", "", 1), (1, "c", "x", 1)])
        self.answered(calls, b"aababcab", [b"x"], 0)
        self.answered(calls, b"a" + b"ab" * 7 + b"c", [b"x"], 0)
        self.answered(calls, b"aa", [], 0, [b"", b"x"])

    def test_that_does_neither(self):
        arcs = [(0, "", "", 1), (1, "", "", 2), (2, "", "", 0), (1, "a", "b", 3), (3, "", "", 3)]
        calls = built(0, 4, [3], arcs)
        self.answered(calls, b"a", [b"b"], 0, [b"", b"bb"])
        self.answered(calls, b"", [], 0, [b"", b"b"])

    def test_of_each_sort_at_one_state(self):
        arcs = [(0, "", "", 0), (0, "a", "", 0), (0, "", "b", 0), (0, "a", "b", 0)]
        calls = built(0, 1, [0], arcs)
        self.answered(calls, b"", [b"b" * count for count in range(17)], 1, [b"a"])
        self.answered(calls, b"a" * 16, [b"b" * count for count in range(17)], 1, [b"a"])
        self.answered(calls, b"ab", [], 0, [b"", b"b"])

    def test_circles_through_one_another(self):
        arcs = [(start, "", "", to) for start in range(5) for to in range(5)] + [(2, "a", "b", 3), (4, "a", "b", 1)]
        calls = built(0, 5, [0], arcs)
        self.answered(calls, b"a" * 16, [b"b" * 16], 0, [b"", b"b" * 15])
        self.answered(calls, b"", [b""], 0, [b"b"])

    def test_a_circle_that_is_left_at_one_place_alone(self):
        arcs = [(0, "", "x", 1), (1, "", "", 2), (2, "", "", 0), (2, "", "y", 3), (3, "", "", 3)]
        calls = built(0, 4, [3], arcs)
        self.answered(calls, b"", [b"x" * count + b"y" for count in range(1, 16)], 1, [b"y", b"", b"xyy"])

    def test_silent_steps_ahead_of_between_and_behind_what_is_written(self):
        arcs = [(0, "", "", 1), (1, "a", "", 2), (2, "", "x", 3), (3, "", "", 4), (4, "b", "", 5), (5, "", "y", 6),
                (6, "", "", 7), (7, "c", "", 8), (8, "", "", 9)]
        self.answered(built(0, 10, [9], arcs), b"abc", [b"xy"], 0, [b"", b"x", b"y", b"yx"])

    def test_states_that_lead_nowhere(self):
        arcs = [(0, "", "a", 1), (1, "", "a", 1), (1, "a", "", 1), (0, "a", "b", 2), (0, "", "", 3), (3, "a", "", 4)]
        calls = built(0, 5, [2], arcs)
        self.answered(calls, b"a", [b"b"], 0, [b"a", b"", b"ab"])
        self.answered(calls, b"", [], 0, [b"", b"a"])

    def test_states_that_are_never_come_to(self):
        arcs = [(1, "", "a", 2), (1, "", "a", 0), (0, "a", "b", 2), (3, "", "c", 2), (3, "", "", 3)]
        self.answered(built(0, 4, [2, 3], arcs), b"a", [b"b"], 0, [b"", b"cb", b"a"])

    def test_no_final_states(self):
        arcs = [(0, "", "", 0), (0, "a", "", 0), (0, "", "b", 0), (0, "a", "b", 1), (1, "", "c", 1)]
        calls = built(0, 2, [], arcs)
        for x in (b"", b"a", b"a" * 16):
            self.answered(calls, x, [], 0, [b"", b"b", b"b" * 16])
            self.assertEqual(told_of(calls + [(NEXT, 0, x), (LATER, 0, x, b"b")])[-2:], [[-4], [-4]])

    def test_no_arcs(self):
        self.answered(built(0, 1, [0], []), b"", [b""], 0)
        self.answered(built(0, 1, [0], []), b"a", [], 0, [b"", b"a"])
        self.answered(built(0, 2, [1], []), b"", [], 0, [b""])


if __name__ == "__main__":
    unittest.main()
