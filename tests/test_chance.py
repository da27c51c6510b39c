"""Long lists of calls drawn by chance, beside a small model of what each call answers."""

import random
import unittest

from asking import AGAIN, ARC, BEHIND, ENDLESS, FINAL, FOLLOW, HOLDS, JOIN, KEEP, LATER, MOST, NEW, NEXT, SIZE, STATE
from asking import TURN, told_of


MAKING = (JOIN, FOLLOW, AGAIN, BEHIND, KEEP)


class Model:
    """For each place the two numbers of its machine, and whether it is being built."""

    def __init__(self):
        self.places = {}

    def answer(self, kind, *numbers):
        named = numbers[1:] if kind in MAKING else numbers[:1]
        if max(named) > 5:
            return -1
        if kind == NEW:
            self.places[named[0]] = (1, 0, True)
            return 0
        if not all(place in self.places for place in named):
            return -8
        if kind in MAKING:
            return self.made(kind, numbers[0], [self.places[place][:2] for place in named])
        if kind == SIZE:
            return (0, 2) + self.places[named[0]][:2] + (0,)
        return 0 if kind == TURN else self.built(kind, named[0], numbers[1:])

    def made(self, kind, d, parts):
        if d > 5:
            return -1
        (a, a_arcs), (b, b_arcs) = parts[0], parts[-1]
        states, arcs = {
            JOIN: (a + b + 1, a_arcs + b_arcs + 2),
            FOLLOW: (a + b, a_arcs + b_arcs + a),
            AGAIN: (a + 1, a_arcs + a + 1),
            BEHIND: (a * b, a_arcs * b_arcs + a_arcs * b + a * b_arcs),
            KEEP: (a, a_arcs),
        }[kind]
        if states > 24 or arcs > 300:
            return -2
        self.places[d] = (states, arcs, False)
        return 0

    def built(self, kind, m, numbers):
        states, arcs, building = self.places[m]
        if not building:
            return -3
        if kind == STATE:
            if states == 24:
                return -2
            self.places[m] = (states + 1, arcs, True)
            return states
        if kind == FINAL:
            return 0 if numbers[0] < states else -1
        start, reads, writes, to = numbers
        if start >= states or to >= states or not -1 <= reads <= 255 or not -1 <= writes <= 255:
            return -1
        if arcs == 300:
            return -2
        self.places[m] = (states, arcs + 1, True)
        return 0


def chance_calls(chance, asking):
    """400 calls at the most; now of all kinds alike, now so that one net grows up to its bounds."""
    states, arcs, usual = chance.choice(((12, 40, (0, 1, 2)), (300, 40, (0, 1)), (12, 1000, (0,))))
    kinds = [NEW] + [STATE] * states + [FINAL] * 3 + [ARC] * arcs + [TURN, SIZE, JOIN, FOLLOW, AGAIN, BEHIND, KEEP]
    kinds += asking * (len(kinds) // 20)
    return [(NEW, place) for place in usual] + [chance_call(chance, chance.choice(kinds), usual) for _ in range(397)]


def chance_call(chance, kind, usual):
    def place():
        return chance.choice((2, 3, 4, 5, 6, MOST) if chance.random() < 0.03 else usual)

    def state():
        return chance.choice((1, 2, 3, 23, 24, MOST) if chance.random() < 0.03 else (0,))

    def label():
        return chance.choice((256, -2, 2147483647, -2147483648) if chance.random() < 0.03 else (-1, 0, 97, 255))

    def word():
        return bytes([chance.choice((0, 97, 255))]) * chance.choice((0, 1, 2, 3, 16, 17))

    if kind in (NEW, STATE, TURN, SIZE):
        return kind, place()
    if kind == FINAL:
        return kind, place(), state(), chance.choice((0, 1, MOST))
    if kind == ARC:
        return kind, place(), state(), label(), label(), state()
    if kind in (AGAIN, KEEP):
        return kind, place(), place()
    if kind in (NEXT, ENDLESS):
        return kind, place(), word()
    if kind in (LATER, HOLDS):
        return kind, place(), word(), word()
    return kind, place(), place(), place()


def as_told(answer):
    return [answer] if isinstance(answer, int) else list(answer)


class ChanceTest(unittest.TestCase):
    def test_as_the_model_says(self):
        met = set()
        for seed in range(300):
            chance = random.Random(seed)
            calls = chance_calls(chance, [])
            model = Model()
            told = [as_told(model.answer(*call)) for call in calls]
            self.assertEqual(told_of(calls), told, seed)
            met |= {(call[0], answer[0]) for call, answer in zip(calls, told)}
        for kind, refusals in ((STATE, (-1, -2, -3, -8)), (FINAL, (-1, -3, -8)), (ARC, (-1, -2, -3, -8)),
                               (JOIN, (-1, -2, -8)), (FOLLOW, (-1, -2, -8)), (AGAIN, (-1, -2, -8)),
                               (BEHIND, (-1, -2, -8)), (KEEP, (-1, -8)), (SIZE, (-1, -8)),
                               (TURN, (-1, -8)), (NEW, (-1,))):
            for number in refusals:
                self.assertIn((kind, number), met)

    def test_refused_calls_might_as_well_not_be_there(self):
        met = set()
        for seed in range(300):
            chance = random.Random(-1 - seed)
            calls = chance_calls(chance, [NEXT, LATER, HOLDS, ENDLESS])
            told = told_of(calls)
            done = [call for call, answer in zip(calls, told) if answer[0] >= 0]
            self.assertEqual(told_of(done), [answer for answer in told if answer[0] >= 0], seed)
            met |= {(call[0], min(answer[0], 0)) for call, answer in zip(calls, told)}
        for kind, refusals in ((NEXT, (0, -1, -2, -4, -8)), (LATER, (0, -1, -2, -4, -8)), (HOLDS, (0, -1, -2, -8)),
                               (ENDLESS, (0, -1, -2, -8))):
            for number in refusals:
                self.assertIn((kind, number), met)


if __name__ == "__main__":
    unittest.main()
