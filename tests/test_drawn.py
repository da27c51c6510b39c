"""Machines drawn by chance, made of nets and of made machines, beside the second telling of trees.py."""

import itertools
import random
import unittest

import trees
from asking import AGAIN, BEHIND, ENDLESS, FOLLOW, HOLDS, JOIN, KEEP, LATER, NEW, SIZE, TURN
from asking import built, later_word, next_word, numbers_after, told_of, words_into

KINDS = {JOIN: "join", FOLLOW: "follow", AGAIN: "again", BEHIND: "behind", KEEP: "keep", TURN: "turn"}
LETTERS = b"ab"
SHORT = [bytes(word) for length in range(4) for word in itertools.product(LETTERS, repeat=length)]


def drawn_net(chance, letters):
    states = chance.randint(1, 3)
    labels = [-1] + list(letters)
    arcs = [(chance.randrange(states), chance.choice(labels), chance.choice(labels), chance.randrange(states))
            for _ in range(chance.randint(1, 6))]
    finals = [state for state in range(states) if chance.random() < 0.5]
    return states, finals, arcs


def drawn(chance, letters, makings):
    """Calls, and for each place the tree of its machine."""
    calls, places = [], {}
    for place in range(3):
        states, finals, arcs = drawn_net(chance, letters)
        calls += built(place, states, finals, arcs)
        places[place] = ("net", tuple(finals), tuple(arcs))
    while makings:
        kind = chance.choice((JOIN, FOLLOW, AGAIN, BEHIND, BEHIND, KEEP, TURN))
        d, a, b = chance.randrange(6), chance.choice(list(places)), chance.choice(list(places))
        call = (kind, a) if kind == TURN else (kind, d, a) if kind in (AGAIN, KEEP) else (kind, d, a, b)
        if told_of(calls + [call])[-1] == [0]:
            calls.append(call)
            parts = (a,) if kind in (TURN, AGAIN, KEEP) else (a, b)
            places[a if kind == TURN else d] = (KINDS[kind],) + tuple(places[part] for part in parts)
        makings -= 1
    return calls, places


class DrawnTest(unittest.TestCase):
    def test_holds(self):
        chance = random.Random(11)
        met = set()
        for _ in range(150):
            calls, places = drawn(chance, LETTERS, 5)
            place = chance.choice(list(places))
            pairs = [(x, x) for x in SHORT] + [(chance.choice(SHORT), chance.choice(SHORT)) for _ in range(45)]
            due = [int(trees.holds(places[place], x, y)) for x, y in pairs]
            self.assertEqual(numbers_after(calls, [(HOLDS, place, x, y) for x, y in pairs]), due, (calls, pairs))
            met |= {(places[place][0], number) for number in due}
        self.assertGreaterEqual(met, {(kind, number) for kind in KINDS.values() for number in (0, 1)})

    def test_endless(self):
        chance = random.Random(12)
        met = set()
        for _ in range(250):
            calls, places = drawn(chance, LETTERS, 5)
            place = chance.choice(list(places))
            asked = [chance.choice(SHORT) for _ in range(4)] + [b""]
            due = [int(trees.endless(places[place], x)) for x in asked]
            self.assertEqual(numbers_after(calls, [(ENDLESS, place, x) for x in asked]), due, (calls, asked))
            met |= {(places[place][0], number) for number in due}
        self.assertGreaterEqual(met, {(kind, 0) for kind in KINDS.values()})
        self.assertGreaterEqual(met, {(kind, 1) for kind in KINDS.values() if kind != "keep"})

    def test_answer_by_answer(self):
        chance = random.Random(13)
        met = 0
        for _ in range(200):
            calls, places = drawn(chance, LETTERS, 4)
            place = chance.choice(list(places))
            x = chance.choice(SHORT)
            due, length = trees.words(places[place], x, longest=16, widest=40)
            words = words_into(calls, place, x, most=len(due) + 1)
            self.assertEqual([word for word in words if len(word) <= length], due, (calls, place, x))
            met += len(due)
        self.assertGreater(met, 200)

    def test_one_letter_through_all_sixteen_bytes(self):
        chance = random.Random(14)
        for _ in range(200):
            calls, places = drawn(chance, b"a", 6)
            place = chance.choice(list(places))
            x = b"a" * chance.choice((0, 1, 2, 5, 16))
            due, length = trees.words(places[place], x, longest=16, widest=1)
            self.assertEqual(length, 16)
            self.assertEqual(words_into(calls, place, x), due, (calls, place, x))

    def test_later_of_any_word(self):
        chance = random.Random(15)
        for _ in range(200):
            calls, places = drawn(chance, LETTERS, 4)
            place = chance.choice(list(places))
            x = chance.choice(SHORT)
            due, length = trees.words(places[place], x, longest=16, widest=40)
            for _ in range(10):
                p = bytes(chance.choice(b"`abc") for _ in range(chance.randint(0, max(length - 1, 0))))
                after = [word for word in due if (len(word), word) > (len(p), p)]
                told = later_word(calls, place, x, p)
                if after:
                    self.assertEqual(told, after[0], (calls, place, x, p))
                else:
                    self.assertTrue(told is None or len(told) > length, (calls, place, x, p))

    def test_sixteen_bytes_read(self):
        chance = random.Random(16)
        met = 0
        for _ in range(200):
            calls, places = drawn(chance, LETTERS, 2)
            place = chance.choice(list(places))
            x = bytes(chance.choice(b"aaab") for _ in range(16))
            due, length = trees.words(places[place], x, longest=16, widest=30)
            words = words_into(calls, place, x, most=len(due) + 1)
            self.assertEqual([word for word in words if len(word) <= length], due, (calls, place, x))
            met += len(due)
        self.assertGreater(met, 50)

    def test_what_is_asked_changes_nothing(self):
        chance = random.Random(17)
        for _ in range(40):
            calls, places = drawn(chance, LETTERS, 4)
            asked = [(SIZE, place) for place in places]
            for place in places:
                x, y = chance.choice(SHORT), chance.choice(SHORT)
                asked += [(LATER, place, x, y), (HOLDS, place, x, y), (ENDLESS, place, x)]
            told = told_of(calls + asked + asked + [(KEEP, 6, 0), (BEHIND, 0, 0, 7), (NEW, 6)] + asked)
            first = told[len(calls):][:len(asked)]
            self.assertEqual(told[len(calls) + len(asked):][:len(asked)], first)
            self.assertEqual(told[-len(asked):], first)


def pairs_of_net(states, finals, arcs, most_read, most_written):
    """All (i, j) so that the net of one letter turns i letters into j, up to these numbers."""
    seen = {(0, 0, 0)}
    waiting = [(0, 0, 0)]
    while waiting:
        at, read, written = waiting.pop()
        for start, reads, writes, to in arcs:
            point = (to, read + (reads != -1), written + (writes != -1))
            if start == at and point[1] <= most_read and point[2] <= most_written and point not in seen:
                seen.add(point)
                waiting.append(point)
    return {(read, written) for state, read, written in seen if state in finals}


class OneLetterTest(unittest.TestCase):
    """Words of one letter are told by how many there are: so behind can be told by numbers alone."""

    # A shortest way through both nets comes to no state pair, with as much read and written, twice: it has fewer
    # than 3 * 3 * 4 * 4 moves, so what lies between has fewer letters, too.
    BETWEEN = 3 * 3 * 4 * 4
    UP_TO = 3

    def test_behind(self):
        chance = random.Random(18)
        met = 0
        for _ in range(150):
            first, second = drawn_net(chance, b"a"), drawn_net(chance, b"a")
            into = pairs_of_net(*first, self.UP_TO, self.BETWEEN)
            out = pairs_of_net(*second, self.BETWEEN, self.UP_TO)
            due = {(i, k) for i, j in into for h, k in out if h == j}
            calls = built(0, *first) + built(1, *second) + [(BEHIND, 2, 0, 1)]
            pairs = list(itertools.product(range(self.UP_TO + 1), repeat=2))
            told = numbers_after(calls, [(HOLDS, 2, b"a" * i, b"a" * k) for i, k in pairs])
            self.assertEqual({pair for pair, number in zip(pairs, told) if number}, due, calls)
            met += len(due)
        self.assertGreater(met, 50)

    def test_keep(self):
        chance = random.Random(19)
        for _ in range(60):
            drawn_one = drawn_net(chance, b"a")
            turned = {read for read, written in pairs_of_net(*drawn_one, 4, self.BETWEEN)}
            calls = built(0, *drawn_one) + [(KEEP, 1, 0)]
            for count in range(5):
                word = b"a" * count
                self.assertEqual(next_word(calls, 1, word), word if count in turned else None, calls)
                self.assertEqual(words_into(calls, 1, word), [word] * (count in turned))


if __name__ == "__main__":
    unittest.main()
