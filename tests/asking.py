"""Writes calls as lists of whole numbers, hands them over, and takes the answers apart."""

from turnwords.nets import answers

NEW, STATE, FINAL, ARC, TURN, JOIN, FOLLOW, AGAIN = range(1, 9)
MOST = 4294967295


def flat(calls):
    return [number for call in calls for number in call]


def apart(answered):
    told = []
    at = 0
    while at < len(answered):
        width = answered[at]
        told.append(answered[at + 1:at + 1 + width])
        at += 1 + width
    assert at == len(answered), "the counts and the numbers do not match"
    return told


def numbers_of(calls):
    """The one number that each of the calls answers."""
    told = apart(answers(flat(calls)))
    assert len(told) == len(calls), "not one answer a call"
    assert all(len(answer) == 1 for answer in told), "an answer is not a number alone"
    return [answer[0] for answer in told]


def last_of(calls):
    return numbers_of(calls)[-1]


def net(place, states, arcs):
    """The calls that build a net of so many states and arcs, none of them final."""
    return [(NEW, place)] + [(STATE, place)] * (states - 1) + [(ARC, place, 0, 97, 98, 0)] * arcs
