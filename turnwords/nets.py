"""The calls on one object, which has six places for machines, and what they answer."""

from turnwords.machines import add_arc, add_state, followed, joined, new_net, repeated, set_final, turn_round
from turnwords.refusals import NoMachine, NoRoom, NoSuchPart, NotBuilding, PlaceAbove

PLACES = 6


def need_place(place):
    if place >= PLACES:
        raise PlaceAbove()


def machines_at(places, wanted):
    # Two walks, as a place above 5 is refused ahead of an empty one, whichever is named first.
    for place in wanted:
        need_place(place)
    for place in wanted:
        if places[place] is None:
            raise NoMachine()
    return [places[place] for place in wanted]


def parts_for(places, d, wanted):
    # The place to be filled is looked at last: an empty place among the parts is refused first.
    parts = machines_at(places, wanted)
    need_place(d)
    return parts


def call_new(places, numbers):
    m = numbers[0]
    need_place(m)
    places[m] = new_net()
    return 0


def call_state(places, numbers):
    net = machines_at(places, numbers)[0]
    return add_state(net)


def call_final(places, numbers):
    m, state, yes = numbers
    net = machines_at(places, [m])[0]
    set_final(net, state, yes)
    return 0


def call_arc(places, numbers):
    m, start, reads, writes, to = numbers
    net = machines_at(places, [m])[0]
    add_arc(net, start, reads, writes, to)
    return 0


def call_turn(places, numbers):
    machine = machines_at(places, numbers)[0]
    turn_round(machine)
    return 0


def call_join(places, numbers):
    d, a, b = numbers
    first, second = parts_for(places, d, [a, b])
    places[d] = joined(first, second)
    return 0


def call_follow(places, numbers):
    d, a, b = numbers
    first, second = parts_for(places, d, [a, b])
    places[d] = followed(first, second)
    return 0


def call_again(places, numbers):
    d, a = numbers
    part = parts_for(places, d, [a])[0]
    places[d] = repeated(part)
    return 0


# By the number of a call: what does it, and how many whole numbers it has behind its own.
CALLS = {
    1: (call_new, 1),
    2: (call_state, 1),
    3: (call_final, 3),
    4: (call_arc, 5),
    5: (call_turn, 1),
    6: (call_join, 3),
    7: (call_follow, 3),
    8: (call_again, 2),
}


def number_answered(places, call, numbers):
    try:
        return call(places, numbers)
    except PlaceAbove:
        return -1
    except NoSuchPart:
        return -1
    except NoRoom:
        return -2
    except NotBuilding:
        return -3
    except NoMachine:
        return -8


def answers(calls):
    places = [None] * PLACES
    answered = []
    at = 0
    while at < len(calls):
        call, width = CALLS[calls[at]]
        at = at + 1
        number = number_answered(places, call, calls[at:at + width])
        answered.extend([1, number])
        at = at + width
    return answered
