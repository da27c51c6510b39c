"""Writes calls as lists of whole numbers, hands them over, and takes the answers apart.

A call is a tuple: its number, its whole numbers, and its words as bytes or tuples.
"""

from turnwords.nets import answers

(NEW, STATE, FINAL, ARC, TURN, JOIN, FOLLOW, AGAIN,
 BEHIND, KEEP, SIZE, NEXT, LATER, HOLDS, ENDLESS) = range(1, 16)
MOST = 4294967295
NONE = -1


def flat(calls):
    numbers = []
    for call in calls:
        for part in call:
            numbers += [part] if isinstance(part, int) else [len(part)] + list(part)
    return numbers


def apart(answered):
    told = []
    at = 0
    while at < len(answered):
        width = answered[at]
        told.append(answered[at + 1:at + 1 + width])
        at += 1 + width
    assert at == len(answered), "the counts and the numbers do not match"
    return told


def told_of(calls):
    """What each of the calls answers."""
    told = apart(answers(flat(calls)))
    assert len(told) == len(calls), "not one answer a call"
    return told


def numbers_of(calls):
    """The one number that each of the calls answers."""
    told = told_of(calls)
    assert all(len(answer) == 1 for answer in told), "an answer is not a number alone"
    return [answer[0] for answer in told]


def last_of(calls):
    """The one number that the last of the calls answers."""
    answer = told_of(calls)[-1]
    assert len(answer) == 1, "the answer is not a number alone"
    return answer[0]


def size_of(calls, place):
    answer = told_of(calls + [(SIZE, place)])[-1]
    assert answer[:2] == [0, 2] and answer[4:] == [0], answer
    return tuple(answer[2:4])


def word_of(answer):
    """The word that next or later answers; None for -4."""
    if answer == [-4]:
        return None
    if answer == [0]:
        return b""
    assert answer[:3] == [len(answer) - 3, 0, len(answer) - 3] and len(answer) > 3, answer
    return bytes(answer[3:])


def next_word(calls, m, x):
    return word_of(told_of(calls + [(NEXT, m, x)])[-1])


def later_word(calls, m, x, p):
    return word_of(told_of(calls + [(LATER, m, x, p)])[-1])


def words_into(calls, m, x, most=400):
    """All the answers in their order, beginning with next, each of them handed to later; no more than most."""
    words = []
    word = next_word(calls, m, x)
    while word is not None and len(words) < most:
        words.append(word)
        word = later_word(calls, m, x, word)
    return words


def holding(calls, m, pairs):
    """Those of the pairs (x, y) that machine m turns x into y."""
    pairs = list(pairs)
    told = numbers_after(calls, [(HOLDS, m, x, y) for x, y in pairs])
    assert set(told) <= {0, 1}, told
    return {pair for pair, number in zip(pairs, told) if number == 1}


def numbers_after(calls, asked):
    """The one number that each of those asked answers behind the calls, by lists of at most 400."""
    room = 400 - len(calls)
    numbers = []
    for at in range(0, len(asked), room):
        told = told_of(calls + asked[at:at + room])[len(calls):]
        assert all(len(answer) == 1 for answer in told), told
        numbers += [answer[0] for answer in told]
    return numbers


def net(place, states, arcs):
    """The calls that build a net of so many states and arcs, none of them final."""
    return [(NEW, place)] + [(STATE, place)] * (states - 1) + [(ARC, place, 0, 97, 98, 0)] * arcs


def byte(label):
    """A label as an arc has it, from a text of one sign, or of none for nothing."""
    if isinstance(label, int):
        return label
    return ord(label) if label else NONE


def built(place, states, finals, arcs):
    """The calls that build a net; the arcs are (start, reads, writes, to) with texts of one sign or none."""
    calls = [(NEW, place)] + [(STATE, place)] * (states - 1)
    calls += [(ARC, place, start, byte(reads), byte(writes), to) for start, reads, writes, to in arcs]
    return calls + [(FINAL, place, state, 1) for state in finals]


def word_net(place, x, y):
    """The calls that build a net with one way, which reads x and writes y."""
    length = max(len(x), len(y))
    labels = [(x[at] if at < len(x) else NONE, y[at] if at < len(y) else NONE) for at in range(length)]
    arcs = [(at, reads, writes, at + 1) for at, (reads, writes) in enumerate(labels)]
    return built(place, length + 1, [length], arcs)
