"""What the made machines turn into what, by the words of their making.

What a machine does is told here by all the pairs (x, y) of up to LONGEST bytes each in which it turns x into y.
"""

import itertools
import random
import unittest

from asking import AGAIN, ARC, FINAL, FOLLOW, JOIN, KEEP, NEW, STATE, TURN
from asking import holding, told_of, word_net, words_into

LONGEST = 3
BYTES = (0, 255)
WORDS = [word for length in range(LONGEST + 1) for word in itertools.product(BYTES, repeat=length)]
NOTHING_TO_NOTHING = ((), ())


def pairs_of(calls, place):
    return holding(calls, place, itertools.product(WORDS, WORDS))


def one_after_another(a, b):
    both = {(x1 + x2, y1 + y2) for x1, y1 in a for x2, y2 in b}
    return {(x, y) for x, y in both if len(x) <= LONGEST and len(y) <= LONGEST}


def again_and_again(a):
    told = {NOTHING_TO_NOTHING}
    while True:
        more = told | one_after_another(a, told)
        if more == told:
            return told
        told = more


def turned(a):
    return {(y, x) for x, y in a}


def chance_net(chance, place):
    """A net with circles of each sort, several final states or none, and parts that lead nowhere."""
    states = chance.randint(1, 4)
    calls = [(NEW, place)] + [(STATE, place)] * (states - 1)
    for _ in range(chance.randint(0, 6)):
        reads, writes = chance.choice((-1, 0, 255)), chance.choice((-1, 0, 255))
        calls.append((ARC, place, chance.randrange(states), reads, writes, chance.randrange(states)))
    ends = [(FINAL, place, state, 1) for state in range(states) if chance.random() < 0.5]
    return calls + ends


class PlainTest(unittest.TestCase):
    def test_a_net(self):
        self.assertEqual(pairs_of([(NEW, 0)], 0), set())
        self.assertEqual(pairs_of([(NEW, 0), (FINAL, 0, 0, 1)], 0), {NOTHING_TO_NOTHING})
        self.assertEqual(pairs_of([(NEW, 0), (FINAL, 0, 0, 3), (FINAL, 0, 0, 0)], 0), set())
        self.assertEqual(pairs_of(word_net(0, (0,), (255, 0)), 0), {((0,), (255, 0))})

    def test_join(self):
        parts = word_net(0, (0,), (255,)) + word_net(1, (255,), ())
        self.assertEqual(pairs_of(parts + [(JOIN, 2, 0, 1)], 2), {((0,), (255,)), ((255,), ())})

    def test_join_of_nets_that_come_back_to_their_first_states(self):
        calls = [(NEW, 0), (ARC, 0, 0, 0, 0, 0), (FINAL, 0, 0, 1), (NEW, 1), (ARC, 1, 0, 255, 255, 0), (FINAL, 1, 0, 1)]
        zeros = {((0,) * count, (0,) * count) for count in range(LONGEST + 1)}
        ones = {((255,) * count, (255,) * count) for count in range(LONGEST + 1)}
        self.assertEqual(pairs_of(calls + [(JOIN, 2, 0, 1)], 2), zeros | ones)

    def test_follow(self):
        parts = word_net(0, (0,), (255,)) + word_net(1, (255,), ())
        self.assertEqual(pairs_of(parts + [(FOLLOW, 2, 0, 1)], 2), {((0, 255), (255,))})
        self.assertEqual(pairs_of(parts + [(FOLLOW, 2, 1, 0)], 2), {((255, 0), (255,))})
        self.assertEqual(pairs_of(parts + [(FOLLOW, 0, 0, 0)], 0), {((0, 0), (255, 255))})

    def test_follow_of_what_turns_nothing(self):
        parts = word_net(0, (0,), (255,)) + [(NEW, 1)]
        self.assertEqual(pairs_of(parts + [(FOLLOW, 2, 0, 1)], 2), set())
        self.assertEqual(pairs_of(parts + [(FOLLOW, 2, 1, 0)], 2), set())

    def test_again(self):
        pairs = {((0,) * count, (255,) * count) for count in range(LONGEST + 1)}
        self.assertEqual(pairs_of(word_net(0, (0,), (255,)) + [(AGAIN, 1, 0)], 1), pairs)
        self.assertEqual(pairs_of([(NEW, 0), (AGAIN, 0, 0)], 0), {NOTHING_TO_NOTHING})

    def test_again_of_a_net_that_comes_back_to_its_first_state(self):
        calls = [(NEW, 0), (STATE, 0), (ARC, 0, 0, 0, 0, 0), (ARC, 0, 0, 255, 255, 1), (FINAL, 0, 1, 1), (AGAIN, 1, 0)]
        pairs = {(word, word) for word in WORDS if word == () or word[-1] == 255}
        self.assertEqual(pairs_of(calls, 1), pairs)

    def test_turn(self):
        self.assertEqual(pairs_of(word_net(0, (0, 0), (255,)) + [(TURN, 0)], 0), {((255,), (0, 0))})

    def test_turn_and_on_building(self):
        calls = word_net(0, (0,), (255,)) + [(TURN, 0), (ARC, 0, 1, 0, -1, 1)]
        self.assertEqual(pairs_of(calls, 0), {((255,) + (0,) * count, (0,)) for count in range(LONGEST)})

    def test_turn_leaves_what_was_made_before(self):
        for made in ((JOIN, 1, 0, 0), (FOLLOW, 1, 0, 0), (AGAIN, 1, 0), (KEEP, 1, 0)):
            calls = word_net(0, (0, 0), (255,)) + [made]
            self.assertEqual(pairs_of(calls + [(TURN, 0)], 1), pairs_of(calls, 1))
            self.assertEqual(pairs_of(calls + [(TURN, 1)], 0), {((0, 0), (255,))})

    def test_on_building_leaves_what_was_made_before(self):
        later = [(FINAL, 0, 0, 1), (FINAL, 0, 1, 0), (STATE, 0), (ARC, 0, 0, 255, 0, 2), (FINAL, 0, 2, 1)]
        for made in ((JOIN, 1, 0, 0), (FOLLOW, 1, 0, 0), (AGAIN, 1, 0), (KEEP, 1, 0)):
            calls = word_net(0, (0,), (255,)) + [made]
            self.assertEqual(pairs_of(calls + later, 1), pairs_of(calls, 1))
            self.assertEqual(pairs_of(calls + [(NEW, 0)], 1), pairs_of(calls, 1))


class ChanceTest(unittest.TestCase):
    def test_made_of_nets(self):
        chance = random.Random(1)
        for _ in range(30):
            calls = chance_net(chance, 0) + chance_net(chance, 1)
            calls += [(JOIN, 2, 0, 1), (FOLLOW, 3, 0, 1), (AGAIN, 4, 0), (JOIN, 5, 0, 1), (TURN, 5)]
            a, b, either, after, again, round_again = [pairs_of(calls, place) for place in range(6)]
            self.assertEqual(either, a | b, calls)
            self.assertEqual(after, one_after_another(a, b), calls)
            self.assertEqual(again, again_and_again(a), calls)
            self.assertEqual(round_again, turned(a | b), calls)

    def test_made_of_made_machines(self):
        chance = random.Random(2)
        for _ in range(40):
            calls = chance_net(chance, 0) + chance_net(chance, 1)
            told = [pairs_of(calls, place) for place in range(2)] + [set(), set()]
            calls += [(NEW, 2), (NEW, 3)]
            for _ in range(4):
                d, a, b, made = chance.randrange(4), chance.randrange(2), chance.randrange(2), chance.randrange(4)
                call = [(TURN, a), (JOIN, d, a, b), (FOLLOW, d, a, b), (AGAIN, d, a)][made]
                if told_of(calls + [call])[-1] != [0]:
                    continue
                calls.append(call)
                if made == 0:
                    told[a] = turned(told[a])
                else:
                    told[d] = [None, told[a] | told[b], one_after_another(told[a], told[b]),
                               again_and_again(told[a])][made]
            self.assertEqual([pairs_of(calls, place) for place in range(4)], told, calls)

    def test_next_and_later_tell_what_holds(self):
        chance = random.Random(3)
        for _ in range(40):
            calls = chance_net(chance, 0) + chance_net(chance, 1) + [(FOLLOW, 2, 1, 0), (AGAIN, 3, 2), (TURN, 3)]
            for place in range(4):
                pairs = pairs_of(calls, place)
                for x in WORDS[:7]:
                    # There are 15 words of up to LONGEST bytes: those of the first 15 answers are all of them.
                    words = [tuple(word) for word in words_into(calls, place, x, most=15)]
                    due = sorted([y for word, y in pairs if word == x], key=lambda y: (len(y), y))
                    self.assertEqual([word for word in words if len(word) <= LONGEST], due, (calls, place, x))


if __name__ == "__main__":
    unittest.main()
