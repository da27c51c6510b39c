"""Long lists of calls drawn by chance, beside a small model of what each call answers."""

import random
import unittest

from asking import AGAIN, ARC, FINAL, FOLLOW, JOIN, MOST, NEW, STATE, TURN, numbers_of


class Model:
    """For each place the two numbers of its machine, and whether it is being built."""

    def __init__(self):
        self.places = {}

    def answer(self, kind, *numbers):
        named = numbers[1:] if kind in (JOIN, FOLLOW, AGAIN) else numbers[:1]
        if max(named) > 5:
            return -1
        if kind == NEW:
            self.places[named[0]] = (1, 0, True)
            return 0
        if not all(place in self.places for place in named):
            return -8
        if kind in (JOIN, FOLLOW, AGAIN):
            return self.made(kind, numbers[0], [self.places[place][:2] for place in named])
        return 0 if kind == TURN else self.built(kind, named[0], numbers[1:])

    def made(self, kind, d, parts):
        if d > 5:
            return -1
        (a, a_arcs), (b, b_arcs) = parts[0], parts[-1]
        states, arcs = {
            JOIN: (a + b + 1, a_arcs + b_arcs + 2),
            FOLLOW: (a + b, a_arcs + b_arcs + a),
            AGAIN: (a + 1, a_arcs + a + 1),
        }[kind]
        if states > 24 or arcs > 300:
            return -2
        self.places[d] = (states, arcs, False)
        return 0

    def built(self, kind, m, numbers):
        states, arcs, building = self.places[m]
        if not building:
            return -3
        if kind == STATE:
            if states == 24:
                return -2
            self.places[m] = (states + 1, arcs, True)
            return states
        if kind == FINAL:
            return 0 if numbers[0] < states else -1
        start, reads, writes, to = numbers
        if start >= states or to >= states or not -1 <= reads <= 255 or not -1 <= writes <= 255:
            return -1
        if arcs == 300:
            return -2
        self.places[m] = (states, arcs + 1, True)
        return 0


def chance_calls(chance):
    """400 calls at the most; now of all kinds alike, now so that one net grows up to its bounds."""
    states, arcs, usual = chance.choice(((12, 40, (0, 1, 2)), (300, 40, (0, 1)), (12, 1000, (0,))))
    kinds = [NEW] + [STATE] * states + [FINAL] * 3 + [ARC] * arcs + [TURN, JOIN, FOLLOW, AGAIN]
    return [(NEW, place) for place in usual] + [chance_call(chance, chance.choice(kinds), usual) for _ in range(397)]


def chance_call(chance, kind, usual):
    def place():
        return chance.choice((2, 3, 4, 5, 6, MOST) if chance.random() < 0.03 else usual)

    def state():
        return chance.choice((1, 2, 3, 23, 24, MOST) if chance.random() < 0.03 else (0,))

    def label():
        return chance.choice((256, -2, 2147483647, -2147483648) if chance.random() < 0.03 else (-1, 0, 97, 255))

    if kind in (NEW, STATE, TURN):
        return kind, place()
    if kind == FINAL:
        return kind, place(), state(), chance.choice((0, 1, MOST))
    if kind == ARC:
        return kind, place(), state(), label(), label(), state()
    if kind == AGAIN:
        return kind, place(), place()
    return kind, place(), place(), place()


class ChanceTest(unittest.TestCase):
    def test_as_the_model_says(self):
        met = set()
        for seed in range(300):
            chance = random.Random(seed)
            calls = chance_calls(chance)
            model = Model()
            told = [model.answer(*call) for call in calls]
            self.assertEqual(numbers_of(calls), told, seed)
            met |= {(call[0], number) for call, number in zip(calls, told)}
        for kind, refusals in ((STATE, (-1, -2, -3, -8)), (FINAL, (-1, -3, -8)), (ARC, (-1, -2, -3, -8)),
                               (JOIN, (-1, -2, -8)), (FOLLOW, (-1, -2, -8)), (AGAIN, (-1, -2, -8)),
                               (TURN, (-1, -8)), (NEW, (-1,))):
            for number in refusals:
                self.assertIn((kind, number), met)

    def test_refused_calls_might_as_well_not_be_there(self):
        for seed in range(300):
            chance = random.Random(-1 - seed)
            calls = chance_calls(chance)
            told = numbers_of(calls)
            done = [call for call, number in zip(calls, told) if number >= 0]
            self.assertEqual(numbers_of(done), [number for number in told if number >= 0], seed)


if __name__ == "__main__":
    unittest.main()
