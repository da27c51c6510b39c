"""The refusals, each alone, each pair in the order told, and that a refused call changes nothing."""

import unittest

from asking import AGAIN, ARC, BEHIND, ENDLESS, FINAL, FOLLOW, HOLDS, JOIN, KEEP, LATER, MOST, NEW, NEXT, SIZE, STATE
from asking import TURN, built, last_of, net, numbers_of, size_of, told_of

ABOVE = (6, 7, 100, 4294967290, MOST)
WRONG_LABELS = (256, 257, -2, -255, -2147483648, 2147483647)
# A made machine that has 24 states, and one that has 300 arcs, each at place 1.
MADE_24 = net(0, 23, 0) + [(AGAIN, 1, 0)]
MADE_300 = net(0, 1, 298) + [(AGAIN, 1, 0)]


def made_with_all(place):
    """A call for each way of making, with all its parts at one place."""
    return [(JOIN, 1, place, place), (FOLLOW, 1, place, place), (AGAIN, 1, place), (BEHIND, 1, place, place),
            (KEEP, 1, place)]


def asked_at(place, x=b"", other=b""):
    """A call for each way of asking a machine for words."""
    return [(NEXT, place, x), (LATER, place, x, other), (HOLDS, place, x, other), (ENDLESS, place, x)]


class PlaceAboveTest(unittest.TestCase):
    def test_m(self):
        for m in ABOVE:
            plain = [(NEW, m), (STATE, m), (FINAL, m, 0, 1), (ARC, m, 0, 1, 1, 0), (TURN, m), (SIZE, m)]
            for call in plain + asked_at(m):
                self.assertEqual(last_of([call]), -1)
                self.assertEqual(last_of([(NEW, place) for place in range(6)] + [call]), -1)

    def test_a_and_b(self):
        for above in ABOVE:
            for call in made_with_all(above) + [(JOIN, 1, 0, above), (FOLLOW, 1, 0, above), (BEHIND, 1, 0, above)]:
                self.assertEqual(last_of(net(0, 1, 0) + [call]), -1)
            for call in ((JOIN, 1, above, 0), (FOLLOW, 1, above, 0), (BEHIND, 1, above, 0)):
                self.assertEqual(last_of(net(0, 1, 0) + [call]), -1)

    def test_d(self):
        for d in ABOVE:
            for call in ((JOIN, d, 0, 0), (FOLLOW, d, 0, 0), (AGAIN, d, 0), (BEHIND, d, 0, 0), (KEEP, d, 0)):
                self.assertEqual(last_of(net(0, 1, 0) + [call]), -1)

    def test_the_places_up_to_5_are_taken(self):
        for call in ((NEW, 5), (JOIN, 5, 5, 5), (FOLLOW, 5, 5, 5), (AGAIN, 5, 5), (TURN, 5), (ARC, 5, 0, 1, 1, 0),
                     (BEHIND, 5, 5, 5), (KEEP, 5, 5), (HOLDS, 5, b"", b""), (ENDLESS, 5, b"")):
            self.assertEqual(last_of([(NEW, 5), call]), 0)
        self.assertEqual(told_of([(NEW, 5), (SIZE, 5), (FINAL, 5, 0, 1), (NEXT, 5, b"")])[1::2], [[0, 2, 1, 0, 0], [0]])


class NoMachineTest(unittest.TestCase):
    def test_m(self):
        for m in range(6):
            others = [(NEW, place) for place in range(6) if place != m]
            for call in [(STATE, m), (FINAL, m, 0, 1), (ARC, m, 0, 1, 1, 0), (TURN, m), (SIZE, m)] + asked_at(m):
                self.assertEqual(last_of(others + [call]), -8)

    def test_a_and_b(self):
        for empty in range(1, 6):
            for call in ((JOIN, 0, 0, empty), (JOIN, 0, empty, 0), (JOIN, 0, empty, empty), (FOLLOW, 0, 0, empty),
                         (FOLLOW, 0, empty, 0), (FOLLOW, 0, empty, empty), (AGAIN, 0, empty), (BEHIND, 0, 0, empty),
                         (BEHIND, 0, empty, 0), (BEHIND, 0, empty, empty), (KEEP, 0, empty)):
                self.assertEqual(last_of([(NEW, 0), call]), -8)

    def test_d_may_be_empty(self):
        for call in ((JOIN, 3, 0, 0), (FOLLOW, 3, 0, 0), (AGAIN, 3, 0), (BEHIND, 3, 0, 0), (KEEP, 3, 0)):
            self.assertEqual(last_of([(NEW, 0), call]), 0)

    def test_a_refused_call_puts_nothing_there(self):
        for call in ((NEW, 6), (JOIN, 3, 0, 4), (FOLLOW, 3, 4, 0), (AGAIN, 3, 4), (STATE, 3), (ARC, 3, 0, 1, 1, 0),
                     (BEHIND, 3, 0, 4), (BEHIND, 3, 4, 0), (KEEP, 3, 4), (SIZE, 3), (NEXT, 3, b""),
                     (HOLDS, 3, b"", b"")):
            self.assertEqual(last_of([(NEW, 0), call, (TURN, 3)]), -8)
            self.assertEqual(last_of([(NEW, 0), call, (SIZE, 3)]), -8)


class OrderOfPlacesTest(unittest.TestCase):
    def test_above_5_is_ahead_of_an_empty_place(self):
        for above in ABOVE:
            for call in ((JOIN, 1, above, 2), (JOIN, 1, 2, above), (FOLLOW, 1, above, 2), (FOLLOW, 1, 2, above),
                         (BEHIND, 1, above, 2), (BEHIND, 1, 2, above)):
                self.assertEqual(last_of([call]), -1)
                self.assertEqual(last_of([(NEW, 0), call]), -1)

    def test_an_empty_place_is_ahead_of_d_above_5(self):
        for d in ABOVE:
            for call in ((JOIN, d, 0, 2), (JOIN, d, 2, 0), (FOLLOW, d, 0, 2), (FOLLOW, d, 2, 0), (AGAIN, d, 2),
                         (BEHIND, d, 0, 2), (BEHIND, d, 2, 0), (BEHIND, d, 2, 2), (KEEP, d, 2)):
                self.assertEqual(last_of([(NEW, 0), call]), -8)

    def test_a_or_b_above_5_beside_d_above_5(self):
        for above in ABOVE:
            for call in ((JOIN, 6, above, 2), (JOIN, 6, 2, above), (FOLLOW, 6, 2, above), (AGAIN, 6, above),
                         (BEHIND, 6, above, 2), (BEHIND, 6, 2, above), (KEEP, 6, above)):
                self.assertEqual(last_of([(NEW, 0), call]), -1)

    def test_the_places_are_ahead_of_the_room(self):
        full = net(0, 24, 0)
        for call in ((JOIN, 6, 0, 0), (FOLLOW, 6, 0, 0), (AGAIN, 6, 0), (JOIN, 1, 0, 6), (FOLLOW, 1, 6, 0),
                     (BEHIND, 6, 0, 0), (BEHIND, 1, 0, 6), (BEHIND, 1, 6, 0), (BEHIND, 1, 6, 2)):
            self.assertEqual(last_of(full + [call]), -1)
        for call in ((JOIN, 1, 0, 2), (FOLLOW, 1, 2, 0), (JOIN, 6, 0, 2), (FOLLOW, 6, 2, 0),
                     (BEHIND, 1, 0, 2), (BEHIND, 1, 2, 0), (BEHIND, 6, 0, 2), (BEHIND, 6, 2, 0)):
            self.assertEqual(last_of(full + [call]), -8)

    def test_the_place_is_ahead_of_what_is_wrong_in_the_net(self):
        for call in ((FINAL, 3, 9, 1), (ARC, 3, 9, 1, 1, 9), (ARC, 3, 0, 256, 1, 0), (ARC, 3, 0, 1, -2, 0)):
            self.assertEqual(last_of([(NEW, 0), call]), -8)
        self.assertEqual(last_of([(NEW, 0), (FINAL, 6, 9, 1)]), -1)


class NotBuildingTest(unittest.TestCase):
    def test_alone(self):
        for made in made_with_all(0):
            for call in ((STATE, 1), (FINAL, 1, 0, 1), (FINAL, 1, 0, 0), (ARC, 1, 0, 97, 97, 0)):
                self.assertEqual(last_of([(NEW, 0), made, call]), -3)

    def test_ahead_of_no_such_state(self):
        for state in (1, 23, 24, MOST):
            for call in ((FINAL, 1, state, 1), (ARC, 1, state, 97, 97, 0), (ARC, 1, 0, 97, 97, state)):
                self.assertEqual(last_of([(NEW, 0), (FOLLOW, 1, 0, 0), call]), -3)
                self.assertEqual(last_of(MADE_300 + [call]), -3)

    def test_ahead_of_neither_a_byte_nor_nothing(self):
        for label in WRONG_LABELS:
            for call in ((ARC, 1, 0, label, 97, 0), (ARC, 1, 0, 97, label, 0)):
                self.assertEqual(last_of([(NEW, 0), (AGAIN, 1, 0), call]), -3)
                self.assertEqual(last_of(MADE_300 + [call]), -3)

    def test_ahead_of_no_room(self):
        self.assertEqual(numbers_of(MADE_24 + [(STATE, 1)])[-2:], [0, -3])
        self.assertEqual(numbers_of(MADE_300 + [(ARC, 1, 0, 97, 97, 0)])[-2:], [0, -3])


class NoSuchPartTest(unittest.TestCase):
    def test_no_such_state(self):
        for state in (2, 3, 24, MOST):
            for call in ((FINAL, 0, state, 1), (FINAL, 0, state, 0), (ARC, 0, state, 1, 1, 0), (ARC, 0, 0, 1, 1, state),
                         (ARC, 0, state, -1, -1, state)):
                self.assertEqual(last_of(net(0, 2, 0) + [call]), -1)

    def test_a_state_is_there_once_it_is_made(self):
        calls = [(NEW, 0), (FINAL, 0, 1, 1), (ARC, 0, 1, 1, 1, 1), (STATE, 0), (FINAL, 0, 1, 1), (ARC, 0, 1, 1, 1, 1)]
        self.assertEqual(numbers_of(calls), [0, -1, -1, 1, 0, 0])

    def test_neither_a_byte_nor_nothing(self):
        for label in WRONG_LABELS:
            for other in (-1, 97, label):
                for call in ((ARC, 0, 0, label, other, 0), (ARC, 0, 0, other, label, 0)):
                    self.assertEqual(last_of([(NEW, 0), call]), -1)

    def test_ahead_of_no_room(self):
        full = net(0, 1, 300)
        for call in ((ARC, 0, 1, 1, 1, 0), (ARC, 0, 0, 1, 1, 1), (ARC, 0, 0, 256, 1, 0), (ARC, 0, 0, 1, -2, 0)):
            self.assertEqual(last_of(full + [call]), -1)

    def test_final_has_room_in_a_full_net(self):
        self.assertEqual(last_of(net(0, 24, 300) + [(FINAL, 0, 23, 1)]), 0)
        self.assertEqual(last_of(net(0, 24, 300) + [(FINAL, 0, 24, 1)]), -1)


class NoRoomTest(unittest.TestCase):
    def test_the_25th_state(self):
        calls = [(NEW, 0)] + [(STATE, 0)] * 25
        self.assertEqual(numbers_of(calls), list(range(24)) + [-2, -2])

    def test_the_301st_arc(self):
        calls = net(0, 2, 299) + [(ARC, 0, 1, -1, -1, 0), (ARC, 0, 1, -1, -1, 0), (ARC, 0, 0, 3, 4, 1)]
        self.assertEqual(numbers_of(calls)[-3:], [0, -2, -2])

    def test_each_has_its_own_bound(self):
        self.assertEqual(numbers_of(net(0, 24, 0) + [(STATE, 0), (ARC, 0, 0, 1, 1, 0)])[-2:], [-2, 0])
        self.assertEqual(numbers_of(net(0, 1, 300) + [(ARC, 0, 0, 1, 1, 0), (STATE, 0)])[-2:], [-2, 1])


class TooLongTest(unittest.TestCase):
    """Words of 17 bytes are too many for each of x, p and y; 16 are not."""

    NET = built(0, 1, [0], [(0, "a", "b", 0)])
    X, Y, LONG_X, LONG_Y = b"a" * 16, b"b" * 16, b"a" * 17, b"b" * 17

    def too_long_at(self, m):
        return (asked_at(m, self.LONG_X) + asked_at(m, self.LONG_X, self.LONG_Y)
                + [(LATER, m, b"", self.LONG_Y), (HOLDS, m, b"", self.LONG_Y)])

    def test_just_16(self):
        others = [(LATER, 0, self.X, b"b" * 15), (HOLDS, 0, self.X, self.X)]
        told = told_of(self.NET + asked_at(0, self.X, self.Y) + others)
        full = [16, 0, 16] + [98] * 16
        self.assertEqual(told[len(self.NET):], [full, [-4], [1], [0], full, [0]])

    def test_just_17(self):
        for call in asked_at(0, self.LONG_X, b"") + asked_at(0, self.LONG_X, self.LONG_Y):
            self.assertEqual(last_of(self.NET + [call]), -2)
        for call in ((LATER, 0, b"", self.LONG_Y), (HOLDS, 0, b"", self.LONG_Y), (LATER, 0, self.X, self.LONG_Y),
                     (HOLDS, 0, self.X, self.LONG_Y), (LATER, 0, self.LONG_X, self.Y), (HOLDS, 0, self.LONG_X, self.Y)):
            self.assertEqual(last_of(self.NET + [call]), -2)

    def test_more_than_17(self):
        for count in (18, 32, 255, 256, 5000):
            for call in asked_at(0, b"a" * count) + asked_at(0, b"", b"a" * count)[1:3]:
                self.assertEqual(last_of(self.NET + [call]), -2)

    def test_what_comes_behind_a_long_word_is_read(self):
        calls = self.NET + [(LATER, 0, b"a" * 9000, b"b" * 7000), (SIZE, 0), (NEXT, 0, b"\x01" * 8000), (NEXT, 0, b"a")]
        self.assertEqual(told_of(calls)[-4:], [[-2], [0, 2, 1, 1, 0], [-2], [1, 0, 1, 98]])

    def test_it_holds_for_made_machines_too(self):
        for made in made_with_all(0):
            for call in asked_at(1, self.LONG_X):
                self.assertEqual(last_of(self.NET + [made, call]), -2)

    def test_ahead_of_none_such_word(self):
        for calls in ([(NEW, 0)], built(0, 2, [1], [(0, "a", "b", 0)])):
            for call in ((NEXT, 0, self.LONG_X), (LATER, 0, self.LONG_X, b""), (LATER, 0, b"", self.LONG_Y)):
                self.assertEqual(last_of(calls + [call]), -2)
            for call in ((NEXT, 0, self.X), (LATER, 0, self.X, b""), (LATER, 0, b"", self.Y)):
                self.assertEqual(last_of(calls + [call]), -4)

    def test_a_place_above_5_is_ahead(self):
        for m in ABOVE:
            for call in self.too_long_at(m):
                self.assertEqual(last_of(self.NET + [call]), -1)

    def test_an_empty_place_is_ahead(self):
        for m in range(1, 6):
            for call in self.too_long_at(m):
                self.assertEqual(last_of(self.NET + [call]), -8)

    def test_a_place_above_5_or_empty_is_ahead_of_none_such_word(self):
        for call in ((NEXT, 6, b"z"), (LATER, 6, b"z", b"")):
            self.assertEqual(last_of(self.NET + [call]), -1)
        for call in ((NEXT, 3, b"z"), (LATER, 3, b"z", b"")):
            self.assertEqual(last_of(self.NET + [call]), -8)


class BehindHasNoRoomTest(unittest.TestCase):
    def test_alone(self):
        self.assertEqual(last_of(net(0, 5, 0) + [(BEHIND, 1, 0, 0)]), -2)
        self.assertEqual(last_of(net(0, 1, 17) + [(BEHIND, 1, 0, 0)]), -2)
        self.assertEqual(last_of(net(0, 1, 16) + [(BEHIND, 1, 0, 0)]), 0)

    def test_it_leaves_the_places(self):
        for refused in ((BEHIND, 0, 0, 0), (BEHIND, 1, 0, 0), (BEHIND, 0, 0, 1), (BEHIND, 1, 1, 0)):
            calls = net(0, 5, 3) + [(AGAIN, 1, 0), refused]
            self.assertEqual(numbers_of(calls)[-2:], [0, -2])
            self.assertEqual((size_of(calls, 0), size_of(calls, 1)), ((5, 3), (6, 9)))
            self.assertEqual(last_of(calls + [(STATE, 0)]), 5)
            self.assertEqual(last_of(calls + [(STATE, 1)]), -3)
        calls = net(0, 5, 3) + [(BEHIND, 1, 0, 0)]
        self.assertEqual(last_of(calls + [(SIZE, 1)]), -8)


class ChangesNothingTest(unittest.TestCase):
    def test_refused_calls_of_each_sort(self):
        calls = built(0, 2, [1], [(0, "a", "b", 1)]) + [(AGAIN, 1, 0)]
        seen = [(SIZE, 0), (SIZE, 1), (NEXT, 0, b"a"), (NEXT, 1, b"aaa"), (LATER, 1, b"a", b""),
                (HOLDS, 1, b"aa", b"bb"), (ENDLESS, 0, b"a")]
        due = told_of(calls + seen)[-len(seen):]
        big = net(2, 24, 0)
        for refused in (asked_at(0, b"a" * 17) + asked_at(1, b"", b"a" * 17)[1:3] + asked_at(4) + asked_at(6)
                        + [(BEHIND, 0, 0, 2), (BEHIND, 1, 2, 1), (BEHIND, 6, 0, 1), (BEHIND, 0, 3, 1)]
                        + [(BEHIND, 1, 1, 9), (STATE, 1)]
                        + [(KEEP, 0, 3), (KEEP, 6, 0), (KEEP, 1, 6), (SIZE, 3), (SIZE, 6), (TURN, 3), (JOIN, 0, 0, 2)]
                        + [(FINAL, 0, 5, 1), (FINAL, 1, 0, 0), (ARC, 0, 0, 97, 256, 1), (ARC, 1, 0, 97, 99, 1)]
                        + [(NEXT, 0, b"z"), (LATER, 0, b"a", b"b")]):
            told = told_of(big + calls + [refused] + seen)
            self.assertLess(told[-len(seen) - 1][0], 0, refused)
            self.assertEqual(told[-len(seen):], due, refused)

    def test_a_refused_state(self):
        calls = net(0, 24, 0) + [(STATE, 0), (FINAL, 0, 24, 1), (FINAL, 0, 23, 1), (FOLLOW, 1, 0, 0)]
        self.assertEqual(numbers_of(calls)[-4:], [-2, -1, 0, -2])

    def test_a_refused_arc_counts_for_nothing(self):
        refused = [(ARC, 0, 0, 256, 1, 0), (ARC, 0, 0, 1, -2, 0), (ARC, 0, 5, 1, 1, 0), (ARC, 0, 0, 1, 1, 5)]
        calls = net(0, 1, 298) + refused * 5 + [(AGAIN, 1, 0), (ARC, 0, 0, 1, 1, 0), (ARC, 0, 0, 1, 1, 0)]
        self.assertEqual(numbers_of(calls)[-3:], [0, 0, 0])

    def test_a_refused_making_leaves_the_place(self):
        for refused in ((JOIN, 0, 0, 0), (FOLLOW, 0, 0, 0), (JOIN, 0, 0, 3), (AGAIN, 0, 3), (JOIN, 0, 6, 0)):
            calls = net(0, 15, 0) + [refused, (STATE, 0), (FINAL, 0, 15, 1)]
            self.assertLess(numbers_of(calls)[-3], 0)
            self.assertEqual(numbers_of(calls)[-2:], [15, 0])

    def test_a_refused_making_leaves_a_made_machine(self):
        made = net(0, 9, 0) + [(AGAIN, 1, 0)]
        for refused in ((JOIN, 1, 1, 1 + 5), (JOIN, 1, 1, 2), (FOLLOW, 1, 2, 1), (AGAIN, 1, 2)):
            calls = made + [refused] + [(AGAIN, 1, 1)] * 15
            self.assertEqual(numbers_of(calls)[-15:], [0] * 14 + [-2])


if __name__ == "__main__":
    unittest.main()
