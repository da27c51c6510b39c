"""The two numbers of machines, by the table, seen where the room ends: 24 states and 300 arcs."""

import unittest

from asking import AGAIN, ARC, BEHIND, FINAL, FOLLOW, JOIN, KEEP, NEW, STATE, TURN, last_of, net, numbers_of, size_of


def all_final(place, states):
    return [(FINAL, place, state, 1) for state in range(states)]


class StatesTest(unittest.TestCase):
    def test_join(self):
        for a, b, number in ((11, 12, 0), (12, 11, 0), (12, 12, -2), (22, 1, 0), (23, 1, -2), (1, 23, -2), (1, 22, 0)):
            self.assertEqual(last_of(net(0, a, 0) + net(1, b, 0) + [(JOIN, 2, 0, 1)]), number)

    def test_follow(self):
        for a, b, number in ((12, 12, 0), (13, 12, -2), (12, 13, -2), (23, 1, 0), (1, 23, 0), (24, 1, -2), (1, 24, -2)):
            self.assertEqual(last_of(net(0, a, 0) + net(1, b, 0) + [(FOLLOW, 2, 0, 1)]), number)

    def test_again(self):
        for a, number in ((1, 0), (23, 0), (24, -2)):
            self.assertEqual(last_of(net(0, a, 0) + [(AGAIN, 2, 0)]), number)

    def test_behind(self):
        for a, b, number in ((24, 1, 0), (1, 24, 0), (12, 2, 0), (2, 12, 0), (4, 6, 0), (3, 8, 0), (5, 5, -2),
                             (13, 2, -2), (2, 13, -2), (24, 2, -2), (24, 24, -2), (1, 1, 0), (4, 7, -2), (23, 1, 0)):
            self.assertEqual(last_of(net(0, a, 0) + net(1, b, 0) + [(BEHIND, 2, 0, 1)]), number)

    def test_keep(self):
        for a in (1, 23, 24):
            self.assertEqual(last_of(net(0, a, 0) + [(KEEP, 2, 0)]), 0)

    def test_the_parts_may_be_the_same(self):
        for a, number in ((1, 0), (4, 0), (5, -2), (24, -2)):
            self.assertEqual(last_of(net(0, a, 0) + [(BEHIND, 0, 0, 0)]), number)


class ArcsTest(unittest.TestCase):
    def test_join(self):
        for a, b, number in ((149, 149, 0), (149, 150, -2), (298, 0, 0), (299, 0, -2), (0, 298, 0), (0, 299, -2)):
            self.assertEqual(last_of(net(0, 1, a) + net(1, 2, b) + [(JOIN, 2, 0, 1)]), number)

    def test_follow_counts_the_states_of_a(self):
        for a, b, number in ((147, 150, 0), (147, 151, -2), (297, 0, 0), (298, 0, -2), (0, 297, 0), (0, 298, -2)):
            calls = net(0, 3, a) + net(1, 5, b) + [(FOLLOW, 2, 0, 1)]
            self.assertEqual(last_of(calls), number)
        self.assertEqual(last_of(net(0, 3, 150) + net(1, 5, 145) + [(FOLLOW, 2, 1, 0)]), 0)
        self.assertEqual(last_of(net(0, 3, 150) + net(1, 5, 146) + [(FOLLOW, 2, 1, 0)]), -2)

    def test_again_counts_the_states_of_a(self):
        for states, arcs, number in ((1, 298, 0), (1, 299, -2), (3, 296, 0), (3, 297, -2), (23, 276, 0), (23, 277, -2)):
            self.assertEqual(last_of(net(0, states, arcs) + [(AGAIN, 2, 0)]), number)

    def test_behind_counts_arcs_by_arcs_and_arcs_by_states(self):
        # (a's arcs)(b's arcs) + (a's arcs)(b's states) + (a's states)(b's arcs)
        for a, b, number in (((1, 150), (1, 1), -2), ((1, 149), (1, 1), 0), ((1, 1), (1, 149), 0),
                             ((1, 1), (1, 150), -2), ((2, 12), (3, 18), 0), ((2, 12), (3, 19), -2),
                             ((1, 300), (1, 0), 0), ((1, 0), (1, 300), 0), ((1, 150), (2, 0), 0),
                             ((1, 151), (2, 0), -2), ((2, 0), (1, 150), 0), ((2, 0), (1, 151), -2),
                             ((3, 100), (1, 0), 0), ((1, 100), (3, 0), 0), ((1, 101), (3, 0), -2),
                             ((4, 10), (6, 17), 0), ((4, 10), (6, 18), -2), ((6, 17), (4, 10), 0),
                             ((6, 18), (4, 10), -2), ((4, 14), (6, 12), 0), ((4, 14), (6, 13), -2),
                             ((4, 15), (6, 12), -2)):
            due = a[1] * b[1] + a[1] * b[0] + a[0] * b[1]
            self.assertEqual(number, 0 if due <= 300 else -2)
            calls = net(0, a[0], a[1]) + net(1, b[0], b[1]) + [(BEHIND, 2, 0, 1)]
            self.assertEqual(last_of(calls), number, (a, b))

    def test_behind_counts_whether_the_arcs_meet_or_not(self):
        for reads, writes in ((98, 97), (120, 121), (98, 120), (120, 97), (-1, -1), (98, -1), (-1, 97)):
            for arcs, number in ((28, 0), (29, -2)):
                parts = net(0, 1, 9) + [(NEW, 1), (STATE, 1)] + [(ARC, 1, 0, reads, writes, 1)] * arcs
                for call in ((BEHIND, 2, 0, 1), (BEHIND, 2, 1, 0)):
                    self.assertEqual(last_of(parts + [call]), number)
                    if number == 0:
                        self.assertEqual(size_of(parts + [call], 2), (2, 9 * 28 + 9 * 2 + 28))

    def test_keep_has_room_for_any(self):
        for states, arcs in ((1, 300), (24, 300), (24, 0)):
            calls = net(0, states, arcs) + [(KEEP, 2, 0)]
            self.assertEqual(size_of(calls, 2), (states, arcs))

    def test_which_states_are_final_does_not_count(self):
        for states, arcs, number in ((5, 294, 0), (5, 295, -2)):
            for ends in ([], all_final(0, 1), all_final(0, 3), all_final(0, 5)):
                self.assertEqual(last_of(net(0, states, arcs) + ends + [(AGAIN, 2, 0)]), number)
                follow = net(0, states, arcs) + ends + [(NEW, 1), (ARC, 1, 0, 1, 1, 0), (FOLLOW, 2, 0, 1)]
                self.assertEqual(last_of(follow), number)

    def test_both_bounds_at_once(self):
        self.assertEqual(last_of(net(0, 23, 276) + [(AGAIN, 0, 0)]), 0)
        self.assertEqual(last_of(net(0, 24, 277) + [(AGAIN, 0, 0)]), -2)


class MadeOfMadeTest(unittest.TestCase):
    """A made machine counts by its own two numbers: each beside the greatest net it still goes with."""

    def room(self, calls, states, arcs):
        """What is made at place 0 has just so many states, and just so many arcs."""
        self.assertEqual(last_of(calls + net(1, 23 - states, 0) + [(JOIN, 2, 0, 1)]), 0)
        self.assertEqual(last_of(calls + net(1, 24 - states, 0) + [(JOIN, 2, 0, 1)]), -2)
        self.assertEqual(last_of(calls + net(1, 1, 298 - arcs) + [(JOIN, 2, 1, 0)]), 0)
        self.assertEqual(last_of(calls + net(1, 1, 299 - arcs) + [(JOIN, 2, 1, 0)]), -2)
        self.assertEqual(last_of(calls + net(1, 24 - states, 0) + [(FOLLOW, 2, 0, 1)]), 0)
        self.assertEqual(last_of(calls + net(1, 25 - states, 0) + [(FOLLOW, 2, 0, 1)]), -2)
        self.assertEqual(last_of(calls + net(1, 1, 300 - arcs - states) + [(FOLLOW, 2, 0, 1)]), 0)
        if arcs + states > 0:
            self.assertEqual(last_of(calls + net(1, 1, 301 - arcs - states) + [(FOLLOW, 2, 0, 1)]), -2)
        self.assertEqual(size_of(calls, 0), (states, arcs))

    def test_a_net(self):
        self.room(net(0, 4, 9), 4, 9)

    def test_of_nets(self):
        parts = net(0, 4, 9) + net(3, 5, 20)
        self.room(parts + [(JOIN, 0, 0, 3)], 10, 31)
        self.room(parts + [(FOLLOW, 0, 0, 3)], 9, 33)
        self.room(parts + [(FOLLOW, 0, 3, 0)], 9, 34)
        self.room(parts + [(AGAIN, 0, 3)], 6, 26)

    def test_final_states_make_no_difference(self):
        parts = net(0, 4, 9) + net(3, 5, 20) + all_final(0, 4) + all_final(3, 2)
        self.room(parts + [(JOIN, 0, 0, 3)], 10, 31)
        self.room(parts + [(FOLLOW, 0, 0, 3)], 9, 33)
        self.room(parts + [(AGAIN, 0, 3)], 6, 26)

    def test_of_made_machines(self):
        parts = net(0, 2, 3) + net(3, 3, 4) + [(FOLLOW, 4, 0, 3)]
        self.room(parts + [(FOLLOW, 0, 4, 4)], 10, 23)
        self.room(parts + [(JOIN, 0, 4, 3)], 9, 15)
        self.room(parts + [(AGAIN, 0, 4)], 6, 15)
        self.room(parts + [(AGAIN, 4, 4), (AGAIN, 0, 4)], 7, 22)

    def test_turned_round(self):
        parts = net(0, 2, 3) + net(3, 3, 4) + [(FOLLOW, 0, 0, 3), (TURN, 0)]
        self.room(parts, 5, 9)
        self.room(parts + [(TURN, 0), (AGAIN, 0, 0), (TURN, 0)], 6, 15)
        self.room(net(0, 4, 9) + [(TURN, 0)], 4, 9)

    def test_behind_and_keep(self):
        parts = net(0, 2, 3) + net(3, 3, 4)
        self.room(parts + [(BEHIND, 0, 0, 3)], 6, 3 * 4 + 3 * 3 + 2 * 4)
        self.room(parts + [(BEHIND, 0, 3, 0)], 6, 3 * 4 + 4 * 2 + 3 * 3)
        self.room(parts + [(BEHIND, 0, 0, 0)], 4, 3 * 3 + 3 * 2 + 2 * 3)
        self.room(parts + [(KEEP, 0, 3)], 3, 4)
        self.room(parts + [(KEEP, 0, 0), (KEEP, 0, 0)], 2, 3)

    def test_behind_and_keep_of_made_machines(self):
        parts = net(0, 2, 3) + net(3, 1, 2)
        self.room(parts + [(AGAIN, 0, 0), (BEHIND, 0, 0, 3)], 3, 6 * 2 + 6 * 1 + 3 * 2)
        self.room(parts + [(FOLLOW, 3, 3, 0), (BEHIND, 0, 0, 3)], 6, 3 * 6 + 3 * 3 + 2 * 6)
        self.room(parts + [(JOIN, 3, 3, 3), (BEHIND, 0, 3, 0)], 6, 6 * 3 + 6 * 2 + 3 * 3)
        self.room(parts + [(JOIN, 3, 3, 3), (KEEP, 0, 3)], 3, 6)
        self.room(parts + [(BEHIND, 0, 0, 3), (BEHIND, 0, 0, 3)], 2, 13 * 2 + 13 * 1 + 2 * 2)
        self.room(parts + [(BEHIND, 0, 0, 3), (KEEP, 0, 0), (TURN, 0), (AGAIN, 0, 0)], 3, 13 + 2 + 1)

    def test_behind_of_parts_that_never_meet_counts_in_full(self):
        parts = [(NEW, 0)] + [(ARC, 0, 0, 97, 98, 0)] * 10 + [(NEW, 3)] + [(ARC, 3, 0, 99, 98, 0)] * 4
        self.room(parts + [(BEHIND, 0, 0, 3)], 1, 40 + 10 + 4)
        # 54 arcs are told, none is ever followed: behind one arc more they have still 54 + 54 + 1 arcs.
        self.room(parts + [(BEHIND, 0, 0, 3), (NEW, 3), (ARC, 3, 0, 98, 98, 0), (BEHIND, 0, 0, 3)], 1, 54 + 54 + 1)

    def test_sizes_while_a_net_is_built(self):
        calls = []
        for more, size in (((NEW, 2), (1, 0)), ((STATE, 2), (2, 0)), ((ARC, 2, 0, 1, 1, 0), (2, 1)),
                           ((STATE, 2), (3, 1)), ((ARC, 2, 0, 1, 1, 0), (3, 2)), ((FINAL, 2, 1, 1), (3, 2)),
                           ((TURN, 2), (3, 2)), ((ARC, 2, 0, 1, 256, 0), (3, 2)), ((ARC, 2, 9, 1, 1, 0), (3, 2)),
                           ((NEW, 2), (1, 0))):
            calls.append(more)
            self.assertEqual(size_of(calls, 2), size)
        self.assertEqual(size_of(net(0, 24, 300), 0), (24, 300))
        self.assertEqual(size_of(net(0, 24, 300) + [(STATE, 0), (ARC, 0, 0, 1, 1, 0)], 0), (24, 300))

    def test_what_comes_behind_the_making_does_not_count(self):
        later = [(STATE, 3)] * 9 + [(ARC, 3, 0, 5, 5, 0)] * 50
        self.room(net(3, 3, 4) + [(JOIN, 0, 3, 3)] + later, 7, 10)
        self.room(net(3, 3, 4) + [(FOLLOW, 0, 3, 3)] + later, 6, 11)
        self.room(net(3, 3, 4) + [(AGAIN, 0, 3)] + later, 4, 8)
        self.room(net(3, 3, 4) + [(JOIN, 0, 3, 3), (NEW, 3)], 7, 10)

    def test_a_long_row_of_makings(self):
        calls = [(NEW, 0)] + [(AGAIN, 0, 0)] * 24
        self.assertEqual(numbers_of(calls), [0] * 24 + [-2])
        # Each time on there are as many more arcs as there were states, and one.
        self.room([(NEW, 0)] + [(AGAIN, 0, 0)] * 9, 10, sum(range(2, 11)))


if __name__ == "__main__":
    unittest.main()
