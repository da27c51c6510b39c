"""The two numbers of machines, by the table, seen where the room ends: 24 states and 300 arcs."""

import unittest

from asking import AGAIN, ARC, FINAL, FOLLOW, JOIN, NEW, STATE, TURN, last_of, net, numbers_of


def all_final(place, states):
    return [(FINAL, place, state, 1) for state in range(states)]


class StatesTest(unittest.TestCase):
    def test_join(self):
        for a, b, number in ((11, 12, 0), (12, 11, 0), (12, 12, -2), (22, 1, 0), (23, 1, -2), (1, 23, -2), (1, 22, 0)):
            self.assertEqual(last_of(net(0, a, 0) + net(1, b, 0) + [(JOIN, 2, 0, 1)]), number)

    def test_follow(self):
        for a, b, number in ((12, 12, 0), (13, 12, -2), (12, 13, -2), (23, 1, 0), (1, 23, 0), (24, 1, -2), (1, 24, -2)):
            self.assertEqual(last_of(net(0, a, 0) + net(1, b, 0) + [(FOLLOW, 2, 0, 1)]), number)

    def test_again(self):
        for a, number in ((1, 0), (23, 0), (24, -2)):
            self.assertEqual(last_of(net(0, a, 0) + [(AGAIN, 2, 0)]), number)


class ArcsTest(unittest.TestCase):
    def test_join(self):
        for a, b, number in ((149, 149, 0), (149, 150, -2), (298, 0, 0), (299, 0, -2), (0, 298, 0), (0, 299, -2)):
            self.assertEqual(last_of(net(0, 1, a) + net(1, 2, b) + [(JOIN, 2, 0, 1)]), number)

    def test_follow_counts_the_states_of_a(self):
        for a, b, number in ((147, 150, 0), (147, 151, -2), (297, 0, 0), (298, 0, -2), (0, 297, 0), (0, 298, -2)):
            calls = net(0, 3, a) + net(1, 5, b) + [(FOLLOW, 2, 0, 1)]
            self.assertEqual(last_of(calls), number)
        self.assertEqual(last_of(net(0, 3, 150) + net(1, 5, 145) + [(FOLLOW, 2, 1, 0)]), 0)
        self.assertEqual(last_of(net(0, 3, 150) + net(1, 5, 146) + [(FOLLOW, 2, 1, 0)]), -2)

    def test_again_counts_the_states_of_a(self):
        for states, arcs, number in ((1, 298, 0), (1, 299, -2), (3, 296, 0), (3, 297, -2), (23, 276, 0), (23, 277, -2)):
            self.assertEqual(last_of(net(0, states, arcs) + [(AGAIN, 2, 0)]), number)

    def test_which_states_are_final_does_not_count(self):
        for states, arcs, number in ((5, 294, 0), (5, 295, -2)):
            for ends in ([], all_final(0, 1), all_final(0, 3), all_final(0, 5)):
                self.assertEqual(last_of(net(0, states, arcs) + ends + [(AGAIN, 2, 0)]), number)
                follow = net(0, states, arcs) + ends + [(NEW, 1), (ARC, 1, 0, 1, 1, 0), (FOLLOW, 2, 0, 1)]
                self.assertEqual(last_of(follow), number)

    def test_both_bounds_at_once(self):
        self.assertEqual(last_of(net(0, 23, 276) + [(AGAIN, 0, 0)]), 0)
        self.assertEqual(last_of(net(0, 24, 277) + [(AGAIN, 0, 0)]), -2)


class MadeOfMadeTest(unittest.TestCase):
    """A made machine counts by its own two numbers: each beside the greatest net it still goes with."""

    def room(self, calls, states, arcs):
        """What is made at place 0 has just so many states, and just so many arcs."""
        self.assertEqual(last_of(calls + net(1, 23 - states, 0) + [(JOIN, 2, 0, 1)]), 0)
        self.assertEqual(last_of(calls + net(1, 24 - states, 0) + [(JOIN, 2, 0, 1)]), -2)
        self.assertEqual(last_of(calls + net(1, 1, 298 - arcs) + [(JOIN, 2, 1, 0)]), 0)
        self.assertEqual(last_of(calls + net(1, 1, 299 - arcs) + [(JOIN, 2, 1, 0)]), -2)
        self.assertEqual(last_of(calls + net(1, 24 - states, 0) + [(FOLLOW, 2, 0, 1)]), 0)
        self.assertEqual(last_of(calls + net(1, 25 - states, 0) + [(FOLLOW, 2, 0, 1)]), -2)
        self.assertEqual(last_of(calls + net(1, 1, 300 - arcs - states) + [(FOLLOW, 2, 0, 1)]), 0)
        if arcs + states > 0:
            self.assertEqual(last_of(calls + net(1, 1, 301 - arcs - states) + [(FOLLOW, 2, 0, 1)]), -2)

    def test_a_net(self):
        self.room(net(0, 4, 9), 4, 9)

    def test_of_nets(self):
        parts = net(0, 4, 9) + net(3, 5, 20)
        self.room(parts + [(JOIN, 0, 0, 3)], 10, 31)
        self.room(parts + [(FOLLOW, 0, 0, 3)], 9, 33)
        self.room(parts + [(FOLLOW, 0, 3, 0)], 9, 34)
        self.room(parts + [(AGAIN, 0, 3)], 6, 26)

    def test_final_states_make_no_difference(self):
        parts = net(0, 4, 9) + net(3, 5, 20) + all_final(0, 4) + all_final(3, 2)
        self.room(parts + [(JOIN, 0, 0, 3)], 10, 31)
        self.room(parts + [(FOLLOW, 0, 0, 3)], 9, 33)
        self.room(parts + [(AGAIN, 0, 3)], 6, 26)

    def test_of_made_machines(self):
        parts = net(0, 2, 3) + net(3, 3, 4) + [(FOLLOW, 4, 0, 3)]
        self.room(parts + [(FOLLOW, 0, 4, 4)], 10, 23)
        self.room(parts + [(JOIN, 0, 4, 3)], 9, 15)
        self.room(parts + [(AGAIN, 0, 4)], 6, 15)
        self.room(parts + [(AGAIN, 4, 4), (AGAIN, 0, 4)], 7, 22)

    def test_turned_round(self):
        parts = net(0, 2, 3) + net(3, 3, 4) + [(FOLLOW, 0, 0, 3), (TURN, 0)]
        self.room(parts, 5, 9)
        self.room(parts + [(TURN, 0), (AGAIN, 0, 0), (TURN, 0)], 6, 15)
        self.room(net(0, 4, 9) + [(TURN, 0)], 4, 9)

    def test_what_comes_behind_the_making_does_not_count(self):
        later = [(STATE, 3)] * 9 + [(ARC, 3, 0, 5, 5, 0)] * 50
        self.room(net(3, 3, 4) + [(JOIN, 0, 3, 3)] + later, 7, 10)
        self.room(net(3, 3, 4) + [(FOLLOW, 0, 3, 3)] + later, 6, 11)
        self.room(net(3, 3, 4) + [(AGAIN, 0, 3)] + later, 4, 8)
        self.room(net(3, 3, 4) + [(JOIN, 0, 3, 3), (NEW, 3)], 7, 10)

    def test_a_long_row_of_makings(self):
        calls = [(NEW, 0)] + [(AGAIN, 0, 0)] * 24
        self.assertEqual(numbers_of(calls), [0] * 24 + [-2])
        # Each time on there are as many more arcs as there were states, and one.
        self.room([(NEW, 0)] + [(AGAIN, 0, 0)] * 9, 10, sum(range(2, 11)))


if __name__ == "__main__":
    unittest.main()
