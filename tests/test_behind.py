"""One behind another, own words, turned round: what they turn into what, and made machines asked by every call."""

import unittest

from asking import AGAIN, ARC, BEHIND, ENDLESS, FINAL, FOLLOW, HOLDS, JOIN, KEEP, LATER, NEW, NEXT, STATE, TURN
from asking import built, last_of, later_word, next_word, numbers_after, numbers_of, told_of, word_net, words_into

EMPTY = b""


class AskedTest(unittest.TestCase):
    def asked(self, calls, place, x, words, endless, no=(b"z",)):
        """What next, later, holds and endless answer; of words without end the first of them are named."""
        found = words_into(calls, place, x, most=len(words) + (not endless))
        self.assertEqual(found, words)
        told = numbers_after(calls, [(HOLDS, place, x, word) for word in list(words) + list(no)])
        self.assertEqual(told, [1] * len(words) + [0] * len(no))
        self.assertEqual(last_of(calls + [(ENDLESS, place, x)]), endless)


class BehindTest(AskedTest):
    def test_plain(self):
        calls = word_net(0, b"ab", b"cde") + word_net(1, b"cde", b"f") + [(BEHIND, 2, 0, 1)]
        self.asked(calls, 2, b"ab", [b"f"], 0, [b"cde", b""])
        self.asked(calls, 2, b"cde", [], 0, [b"f"])

    def test_the_order_of_the_two(self):
        calls = word_net(0, b"a", b"b") + word_net(1, b"b", b"c") + [(BEHIND, 2, 1, 0)]
        self.asked(calls, 2, b"b", [], 0, [b"b", b"c"])
        self.asked(calls, 2, b"a", [], 0, [b"c"])

    def test_what_the_second_does_not_read(self):
        calls = word_net(0, b"a", b"b") + word_net(1, b"c", b"d") + [(BEHIND, 2, 0, 1)]
        self.asked(calls, 2, b"a", [], 0, [b"d", b"b", b""])

    def test_both_must_come_to_an_end(self):
        calls = word_net(0, b"aa", b"bb") + word_net(1, b"bbb", b"c") + [(BEHIND, 2, 0, 1)]
        self.asked(calls, 2, b"aa", [], 0, [b"c", b""])
        calls = word_net(0, b"aaa", b"bbb") + word_net(1, b"bb", b"c") + [(BEHIND, 2, 0, 1)]
        self.asked(calls, 2, b"aaa", [], 0, [b"c", b""])

    def test_an_arc_that_writes_nothing_waits(self):
        calls = built(0, 1, [0], [(0, "a", "", 0), (0, "b", "b", 0)]) + word_net(1, b"bb", b"cd") + [(BEHIND, 2, 0, 1)]
        for x in (b"bb", b"aaabb", b"abab", b"bbaaa", b"abaaba"):
            self.asked(calls, 2, x, [b"cd"], 0, [b"c", b""])
        self.asked(calls, 2, b"aab", [], 0, [b"c", b"cd"])

    def test_an_arc_that_reads_nothing_goes_on(self):
        second = built(1, 3, [2], [(0, "", "x", 1), (1, "b", "", 1), (1, "", "y", 2)])
        calls = word_net(0, b"a", b"b") + second + [(BEHIND, 2, 0, 1)]
        self.asked(calls, 2, b"a", [b"xy"], 0, [b"x", b"", b"y"])
        self.asked(calls, 2, b"", [], 0, [b"xy"])

    def test_one_waits_while_the_other_goes_on(self):
        first = built(0, 2, [1], [(0, "a", "", 0), (0, "", "", 1)])
        second = built(1, 2, [1], [(0, "", "x", 0), (0, "", "", 1)])
        calls = first + second + [(BEHIND, 2, 0, 1)]
        self.asked(calls, 2, b"aaa", [b"x" * count for count in range(17)], 1)
        self.asked(calls, 2, b"ab", [], 0, [b"", b"x"])

    def test_one_writes_nothing_and_the_other_reads_nothing(self):
        # Nothing is no byte: an arc that writes nothing does not go together with one that reads nothing alone.
        calls = word_net(0, b"ab", b"") + built(1, 2, [0], [(0, "", "x", 1)]) + [(BEHIND, 2, 0, 1)]
        self.asked(calls, 2, b"ab", [b""], 0, [b"x", b"xx"])
        calls = word_net(0, b"", b"") + word_net(1, b"", b"xy") + [(BEHIND, 2, 0, 1)]
        self.asked(calls, 2, b"", [b"xy"], 0, [b"", b"x"])

    def test_behind_of_a_behind(self):
        parts = word_net(0, b"a", b"b") + word_net(1, b"b", b"c") + word_net(2, b"c", b"d")
        self.asked(parts + [(BEHIND, 3, 0, 1), (BEHIND, 3, 3, 2)], 3, b"a", [b"d"], 0, [b"b", b"c"])
        self.asked(parts + [(BEHIND, 3, 1, 2), (BEHIND, 3, 0, 3)], 3, b"a", [b"d"], 0, [b"b", b"c"])
        self.asked(parts + [(BEHIND, 3, 0, 1), (BEHIND, 3, 2, 3)], 3, b"a", [], 0, [b"d"])

    def test_behind_itself(self):
        calls = built(0, 2, [1], [(0, "a", "a", 0), (0, "", "a", 1)])
        self.asked(calls + [(BEHIND, 0, 0, 0)], 0, b"a", [b"aaa"], 0, [b"a", b"aa"])
        self.asked(calls + [(BEHIND, 0, 0, 0), (BEHIND, 0, 0, 0)], 0, b"a", [b"aaaaa"], 0, [b"aaa"])

    def test_a_word_between_of_more_than_16_bytes(self):
        # Each of the 16 bytes becomes 2, and each of the 32 becomes none: no answer is lost.
        first = built(0, 2, [0], [(0, "a", "b", 1), (1, "", "b", 0)])
        second = built(1, 2, [0, 1], [(0, "b", "", 0), (0, "b", "c", 1), (1, "b", "", 1)])
        calls = first + second + [(BEHIND, 2, 0, 1)]
        self.asked(calls, 2, b"a" * 16, [b"", b"c"], 0, [b"cc", b"b"])
        self.asked(calls, 0, b"a" * 16, [], 0, [b"b" * 16])

    def test_a_word_between_of_just_17_bytes(self):
        first = built(0, 18, [17], [(at, "", "b", at + 1) for at in range(17)])
        second = built(1, 1, [0], [(0, "b", "", 0)])
        calls = first + second + [(BEHIND, 2, 0, 1)]
        self.asked(calls, 2, b"", [b""], 0, [b"b"])

    def test_a_word_between_of_more_than_a_hundred_bytes(self):
        # The first writes eight bytes for each that it reads, the second counts them by threes.
        first = built(0, 8, [0], [(at, "a" if at == 0 else "", "b", (at + 1) % 8) for at in range(8)])
        thirds = built(1, 3, [2], [(0, "b", "", 1), (1, "b", "", 2), (2, "b", "", 0)])
        calls = first + thirds + [(BEHIND, 2, 0, 1)]
        for count in range(17):
            self.assertEqual(next_word(calls, 2, b"a" * count), EMPTY if count * 8 % 3 == 2 else None)

    def test_words_between_without_end(self):
        first = built(0, 2, [1], [(0, "a", "", 1), (1, "", "b", 1)])
        drops = built(1, 1, [0], [(0, "b", "", 0)])
        self.asked(first + drops + [(BEHIND, 2, 0, 1)], 2, b"a", [b""], 0, [b"b"])
        keeps_few = built(1, 3, [0, 1, 2], [(0, "b", "c", 1), (1, "b", "c", 2), (2, "b", "", 2)])
        self.asked(first + keeps_few + [(BEHIND, 2, 0, 1)], 2, b"a", [b"", b"c", b"cc"], 0, [b"ccc"])
        doubles = built(1, 2, [0], [(0, "b", "c", 1), (1, "", "c", 0)])
        self.asked(first + doubles + [(BEHIND, 2, 0, 1)], 2, b"a", [b"cc" * count for count in range(9)], 1, [b"c"])

    def test_endless_by_the_second_alone(self):
        second = built(1, 1, [0], [(0, "b", "", 0), (0, "", "c", 0)])
        calls = word_net(0, b"a", b"b") + second + [(BEHIND, 2, 0, 1)]
        self.asked(calls, 2, b"a", [b"c" * count for count in range(17)], 1, [b"b"])
        self.asked(calls, 2, b"b", [], 0, [b"", b"c"])

    def test_a_circle_between_that_the_second_does_not_follow(self):
        first = built(0, 1, [0], [(0, "", "b", 0)])
        calls = first + word_net(1, b"bbb", b"c") + [(BEHIND, 2, 0, 1)]
        self.asked(calls, 2, b"", [b"c"], 0, [b"", b"cc"])

    def test_the_two_together_come_to_no_end(self):
        evens = built(0, 2, [0], [(0, "", "b", 1), (1, "", "b", 0)])
        odds = built(1, 2, [1], [(0, "b", "", 1), (1, "b", "", 0)])
        self.asked(evens + odds + [(BEHIND, 2, 0, 1)], 2, b"", [], 0, [b"", b"b"])

    def test_the_bytes_0_and_255_between(self):
        first = built(0, 2, [1], [(0, "a", 0, 1), (0, "b", 255, 1), (0, "c", "", 1)])
        second = built(1, 2, [1], [(0, 0, "x", 1), (0, 255, "y", 1), (0, "", "z", 1)])
        calls = first + second + [(BEHIND, 2, 0, 1)]
        self.asked(calls, 2, b"a", [b"x"], 0, [b"y", b"z"])
        self.asked(calls, 2, b"b", [b"y"], 0, [b"x", b"z"])
        self.asked(calls, 2, b"c", [b"z"], 0, [b"x", b"y"])

    def test_the_parts_as_they_are_then(self):
        calls = word_net(0, b"a", b"b") + word_net(1, b"b", b"c") + [(BEHIND, 2, 0, 1)]
        later = [(FINAL, 0, 0, 1), (FINAL, 0, 1, 0), (STATE, 1), (ARC, 1, 0, 98, 100, 1), (TURN, 0), (NEW, 1)]
        for count in range(len(later) + 1):
            self.asked(calls + later[:count], 2, b"a", [b"c"], 0, [b"d", b""])
        self.asked(calls + [(TURN, 2)], 0, b"a", [b"b"], 0)
        self.asked(calls + [(TURN, 2)], 1, b"b", [b"c"], 0)

    def test_at_the_place_of_a_part(self):
        parts = word_net(0, b"a", b"b") + word_net(1, b"b", b"c")
        for d in (0, 1):
            self.asked(parts + [(BEHIND, d, 0, 1)], d, b"a", [b"c"], 0, [b"b"])
        self.asked(parts + [(BEHIND, 0, 0, 1)], 1, b"b", [b"c"], 0)
        self.asked(parts + [(BEHIND, 1, 0, 1)], 0, b"a", [b"b"], 0)


class KeepTest(AskedTest):
    def test_a_word_that_is_turned_into_one(self):
        calls = word_net(0, b"ab", b"cde") + [(KEEP, 1, 0)]
        self.asked(calls, 1, b"ab", [b"ab"], 0, [b"cde", b"", b"a"])
        self.asked(calls, 0, b"ab", [b"cde"], 0, [b"ab"])

    def test_a_word_that_is_turned_into_none(self):
        calls = word_net(0, b"ab", b"cde") + [(KEEP, 1, 0)]
        for x in (b"", b"a", b"abb", b"cde"):
            self.asked(calls, 1, x, [], 0, [x, b"", b"ab"])
        self.asked([(NEW, 0), (KEEP, 1, 0)], 1, b"", [], 0, [b""])

    def test_a_word_that_is_turned_into_many(self):
        calls = built(0, 2, [0, 1], [(0, "a", letter, to) for letter in "xyz" for to in (0, 1)]) + [(KEEP, 1, 0)]
        self.asked(calls, 1, b"aaa", [b"aaa"], 0, [b"xxx", b"aa"])

    def test_a_word_that_is_turned_into_words_without_end(self):
        calls = built(0, 2, [1], [(0, "a", "b", 0), (0, "", "c", 1), (1, "", "c", 1)]) + [(KEEP, 1, 0)]
        for x in (b"", b"a", b"a" * 15):
            self.asked(calls, 1, x, [x], 0, [b"c", x + b"c", b"b"])
            self.assertEqual(last_of(calls + [(ENDLESS, 0, x)]), 1)

    def test_a_word_that_is_turned_into_longer_ones_alone(self):
        calls = built(0, 18, [17], [(at, "", "b", at + 1) for at in range(17)]) + [(KEEP, 1, 0)]
        self.asked(calls, 1, b"", [b""], 0, [b"b"])
        self.asked(calls, 0, b"", [], 0, [b""])

    def test_the_empty_word(self):
        self.asked(word_net(0, b"", b"b") + [(KEEP, 1, 0)], 1, b"", [b""], 0, [b"b"])
        self.asked(word_net(0, b"a", b"") + [(KEEP, 1, 0)], 1, b"a", [b"a"], 0, [b""])

    def test_of_a_behind(self):
        parts = built(0, 2, [1], [(0, "a", "b", 1), (0, "b", "c", 1)]) + word_net(1, b"b", b"d")
        calls = parts + [(BEHIND, 2, 0, 1), (KEEP, 3, 2)]
        self.asked(calls, 3, b"a", [b"a"], 0, [b"d", b"b"])
        self.asked(calls, 3, b"b", [], 0, [b"b", b"c"])

    def test_ahead_of_another(self):
        # Only the words that the net at 0 turns into anything go on to the net at 1.
        chosen = built(0, 2, [1], [(0, "a", "", 0), (0, "b", "x", 1)])
        marks = built(1, 1, [0], [(0, "a", "A", 0), (0, "b", "B", 0)])
        calls = chosen + marks + [(KEEP, 2, 0), (BEHIND, 3, 2, 1)]
        self.asked(calls, 3, b"aab", [b"AAB"], 0, [b"x", b"aab"])
        self.asked(calls, 3, b"aba", [], 0, [b"ABA"])

    def test_of_its_turned_round(self):
        calls = word_net(0, b"ab", b"cde") + [(KEEP, 1, 0), (TURN, 0), (KEEP, 2, 0), (TURN, 2)]
        self.asked(calls, 1, b"ab", [b"ab"], 0, [b"cde"])
        self.asked(calls, 2, b"cde", [b"cde"], 0, [b"ab"])

    def test_the_part_stays_and_what_comes_later_does_not_count(self):
        calls = word_net(0, b"a", b"b") + [(KEEP, 1, 0)]
        later = [(FINAL, 0, 0, 1), (FINAL, 0, 1, 0), (ARC, 0, 0, 98, 98, 1), (TURN, 0), (NEW, 0)]
        for count in range(len(later) + 1):
            self.asked(calls + later[:count], 1, b"a", [b"a"], 0, [b"b", b""])
        self.asked(word_net(0, b"a", b"b") + [(KEEP, 0, 0)], 0, b"a", [b"a"], 0, [b"b"])


class TurnTest(AskedTest):
    def test_a_net(self):
        calls = built(0, 2, [1], [(0, "a", "b", 0), (0, "", "c", 1)]) + [(TURN, 0)]
        self.asked(calls, 0, b"bbc", [b"aa"], 0, [b"bbc", b""])
        self.asked(calls, 0, b"aa", [], 0, [b"bbc"])

    def test_what_is_said_behind_goes_by_the_turned_net(self):
        calls = word_net(0, b"a", b"b") + [(TURN, 0), (ARC, 0, 0, 99, 100, 1)]
        self.asked(calls, 0, b"b", [b"a"], 0)
        self.asked(calls, 0, b"c", [b"d"], 0)
        self.asked(calls + [(TURN, 0)], 0, b"d", [b"c"], 0)

    def test_made_machines(self):
        parts = word_net(0, b"a", b"bb") + word_net(1, b"c", b"d")
        self.asked(parts + [(JOIN, 2, 0, 1), (TURN, 2)], 2, b"bb", [b"a"], 0, [b"bb", b"c"])
        self.asked(parts + [(JOIN, 2, 0, 1), (TURN, 2)], 2, b"d", [b"c"], 0, [b"a"])
        self.asked(parts + [(FOLLOW, 2, 0, 1), (TURN, 2)], 2, b"bbd", [b"ac"], 0, [b"ca"])
        self.asked(parts + [(AGAIN, 2, 0), (TURN, 2)], 2, b"bbbbbb", [b"aaa"], 0, [b"aa"])
        self.asked(parts + [(KEEP, 2, 0), (TURN, 2)], 2, b"a", [b"a"], 0, [b"bb"])
        behind = word_net(1, b"bb", b"d") + [(BEHIND, 2, 0, 1), (TURN, 2)]
        self.asked(parts + behind, 2, b"d", [b"a"], 0, [b"bb"])
        self.asked(parts + behind, 2, b"a", [], 0, [b"d"])

    def test_words_that_become_endless(self):
        calls = built(0, 2, [1], [(0, "a", "b", 1), (1, "c", "", 1)]) + [(AGAIN, 1, 0), (TURN, 1)]
        self.asked(calls, 1, b"b", [b"a" + b"c" * count for count in range(16)], 1, [b"", b"c"])
        self.asked(calls, 1, b"bb", [b"aa", b"aac", b"aca", b"aacc", b"acac"], 1, [b"a", b"caa"])
        self.asked(calls, 1, b"", [b""], 0, [b"a"])

    def test_behind_its_turned_round(self):
        classes = built(0, 2, [1], [(0, letter, "v" if letter in "aei" else "k", 1) for letter in "abcdei"])
        calls = classes + [(KEEP, 1, 0), (FOLLOW, 2, 0, 0), (TURN, 0), (AGAIN, 3, 0), (BEHIND, 4, 2, 3)]
        due = [bytes(word) for word in ((b, a) for b in b"bcd" for a in b"aei")]
        self.asked(calls, 4, b"ba", due, 0, [b"ab", b"b", b""])

    def test_a_made_machine_turned_as_often_as_one_likes(self):
        calls = word_net(0, b"a", b"b") + [(AGAIN, 1, 0)]
        for count in range(5):
            x, y = (b"aa", b"bb") if count % 2 == 0 else (b"bb", b"aa")
            self.asked(calls + [(TURN, 1)] * count, 1, x, [y], 0, [x, b""])


class MadeTest(AskedTest):
    """join, follow and again where a net of theirs has arcs at its first state and its final states."""

    def test_join(self):
        calls = word_net(0, b"a", b"x") + word_net(1, b"a", b"yy") + [(JOIN, 2, 0, 1)]
        self.asked(calls, 2, b"a", [b"x", b"yy"], 0, [b"", b"xyy"])
        self.asked(calls + [(JOIN, 3, 2, 2)], 3, b"a", [b"x", b"yy"], 0, [b"", b"xyy"])

    def test_join_where_the_first_state_of_one_is_come_back_to(self):
        first = built(0, 2, [1], [(0, "a", "x", 0), (0, "", "", 1)])
        second = built(1, 2, [1], [(0, "b", "y", 0), (0, "b", "z", 1)])
        for calls in (first + second + [(JOIN, 2, 0, 1)], first + second + [(JOIN, 2, 1, 0)]):
            self.asked(calls, 2, b"aa", [b"xx"], 0)
            self.asked(calls, 2, b"bb", [b"yz"], 0, [b"yy"])
            self.asked(calls, 2, b"aab", [], 0, [b"xxz", b"xxy"])
            self.asked(calls, 2, b"ba", [], 0, [b"yx", b"zx"])
            self.asked(calls, 2, b"", [b""], 0)

    def test_join_is_endless_where_one_is(self):
        grows = built(0, 1, [0], [(0, "", "x", 0)])
        calls = grows + word_net(1, b"a", b"b") + [(JOIN, 2, 0, 1), (JOIN, 3, 1, 0)]
        for place in (2, 3):
            self.asked(calls, place, b"", [b"x" * count for count in range(17)], 1, [b"b"])
            self.asked(calls, place, b"a", [b"b"], 0, [b"", b"x"])

    def test_follow(self):
        calls = word_net(0, b"a", b"x") + word_net(1, b"b", b"y") + [(FOLLOW, 2, 0, 1)]
        self.asked(calls, 2, b"ab", [b"xy"], 0, [b"x", b"y", b"yx"])
        for x in (b"", b"a", b"b", b"ba"):
            self.asked(calls, 2, x, [], 0, [b"xy", b"x", b"y", b""])

    def test_follow_where_the_final_state_has_arcs_that_go_on(self):
        first = built(0, 2, [1], [(0, "a", "x", 1), (1, "a", "x", 1), (1, "", "z", 0)])
        second = built(1, 2, [1], [(0, "a", "y", 1)])
        calls = first + second + [(FOLLOW, 2, 0, 1)]
        self.asked(calls, 2, b"aa", [b"xy"], 0, [b"yy", b"xx"])
        self.asked(calls, 2, b"aaa", [b"xxy", b"xzxy"], 0, [b"xyy", b"xyzy"])
        self.asked(calls, 2, b"a", [], 0, [b"x", b"y"])

    def test_follow_where_the_second_comes_back_to_its_first_state(self):
        second = built(1, 1, [0], [(0, "b", "y", 0)])
        calls = word_net(0, b"a", b"x") + second + [(FOLLOW, 2, 0, 1)]
        self.asked(calls, 2, b"abb", [b"xyy"], 0)
        self.asked(calls, 2, b"abab", [], 0, [b"xyxy"])

    def test_follow_where_each_may_take_some(self):
        stars = [(0, "a", "x", 0)]
        calls = built(0, 1, [0], stars) + built(1, 1, [0], [(0, "a", "y", 0)]) + [(FOLLOW, 2, 0, 1)]
        self.asked(calls, 2, b"aa", [b"xx", b"xy", b"yy"], 0, [b"yx"])

    def test_again(self):
        calls = word_net(0, b"a", b"xy") + [(AGAIN, 1, 0)]
        self.asked(calls, 1, b"", [b""], 0, [b"xy"])
        self.asked(calls, 1, b"aaa", [b"xyxyxy"], 0, [b"xy", b""])
        self.asked(calls, 1, b"ab", [], 0, [b"xy"])

    def test_again_where_the_final_state_leads_back_into_the_middle(self):
        arcs = [(0, "a", "x", 1), (1, "b", "y", 2), (2, "c", "z", 1)]
        calls = built(0, 3, [2], arcs) + [(AGAIN, 1, 0)]
        self.asked(calls, 1, b"abcb", [b"xyzy"], 0)
        self.asked(calls, 1, b"abcbab", [b"xyzyxy"], 0)
        for x in (b"a", b"abc", b"abb", b"bab", b"cb", b"abcab"):
            self.asked(calls, 1, x, [], 0, [b"", b"xyz", b"xy"])
        self.asked(calls, 1, b"", [b""], 0)

    def test_again_where_the_first_state_is_come_back_to(self):
        # Were the empty word told by a final first state, a and aa would be turned into something, too.
        calls = built(0, 2, [1], [(0, "a", "x", 0), (0, "b", "y", 1)]) + [(AGAIN, 1, 0)]
        self.asked(calls, 1, b"aab", [b"xxy"], 0)
        self.asked(calls, 1, b"abb", [b"xyy"], 0)
        for x in (b"a", b"aa", b"ba"):
            self.asked(calls, 1, x, [], 0, [b"", b"x", b"xx", b"yx"])

    def test_again_of_what_reads_nothing(self):
        calls = word_net(0, b"", b"xy") + [(AGAIN, 1, 0)]
        self.asked(calls, 1, b"", [b"xy" * count for count in range(9)], 1, [b"x"])
        self.asked(calls, 0, b"", [b"xy"], 0, [b""])

    def test_again_of_what_does_neither(self):
        calls = word_net(0, b"", b"") + [(AGAIN, 1, 0), (AGAIN, 2, 1)]
        for place in (1, 2):
            self.asked(calls, place, b"", [b""], 0)

    def test_again_of_what_turns_nothing(self):
        calls = [(NEW, 0), (AGAIN, 1, 0)]
        self.asked(calls, 1, b"", [b""], 0)
        self.asked(calls, 1, b"a", [], 0, [b"", b"a"])

    def test_made_machines_of_made_machines(self):
        calls = word_net(0, b"a", b"x") + word_net(1, b"b", b"") + [(JOIN, 2, 0, 1), (AGAIN, 2, 2), (FOLLOW, 3, 2, 0)]
        self.asked(calls, 3, b"abba", [b"xx"], 0, [b"x", b"xxx"])
        self.asked(calls, 3, b"ab", [], 0, [b"x"])
        self.asked(calls + [(TURN, 3)], 3, b"x", [b"a", b"ba", b"bba", b"bbba"], 1, [b"", b"b", b"ab"])

    def test_a_made_machine_stays_when_its_place_is_taken(self):
        calls = word_net(0, b"a", b"x") + [(AGAIN, 0, 0), (KEEP, 1, 0), (JOIN, 2, 0, 1), (NEW, 0), (NEW, 1)]
        self.asked(calls, 2, b"aa", [b"aa", b"xx"], 0, [b"ax"])
        self.assertEqual(told_of(calls + [(NEXT, 0, b""), (LATER, 1, b"", b"")])[-2:], [[-4], [-4]])

    def test_later_within_a_made_machine(self):
        calls = word_net(0, b"a", b"x") + word_net(1, b"a", b"y") + [(JOIN, 2, 0, 1), (AGAIN, 3, 2)]
        self.assertEqual(later_word(calls, 3, b"a" * 16, b"x" * 15 + b"y"), b"x" * 14 + b"yx")
        self.assertEqual(later_word(calls, 3, b"a" * 16, b"y" * 15 + b"x"), b"y" * 16)
        self.assertEqual(later_word(calls, 3, b"a" * 16, b"y" * 16), None)
        self.assertEqual(numbers_of(calls)[-2:], [0, 0])


if __name__ == "__main__":
    unittest.main()
