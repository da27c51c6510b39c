"""The calls on one object, which has six places for machines, and what they answer."""

from turnwords.machines import add_arc, add_state, behind_another, followed, joined, new_net, own_words, repeated
from turnwords.machines import set_final, turn_round
from turnwords.refusals import NoMachine, NoRoom, NoSuchPart, NotBuilding, NoWord, PlaceAbove, TooLong
from turnwords.ways import LONGEST, first_word, turns_into, turns_without_end, word_after

PLACES = 6


def need_place(place):
    if place >= PLACES:
        raise PlaceAbove()


def machines_at(places, wanted):
    # Two walks, as a place above 5 is refused ahead of an empty one, whichever is named first.
    for place in wanted:
        need_place(place)
    for place in wanted:
        if places[place] is None:
            raise NoMachine()
    return [places[place] for place in wanted]


def machine_at(places, place):
    return machines_at(places, [place])[0]


def parts_for(places, d, wanted):
    # The place to be filled is looked at last: an empty place among the parts is refused first.
    parts = machines_at(places, wanted)
    need_place(d)
    return parts


def need_short(words):
    for word in words:
        if len(word) > LONGEST:
            raise TooLong()


def number_alone(number):
    return [number]


def number_and_list(number, told):
    return [number, len(told)] + told + [0]


def length_and_word(word):
    # With the empty word both list and text are empty, so its number stands alone.
    if len(word) == 0:
        return number_alone(0)
    return [len(word), 0, len(word)] + word


def call_new(places, given):
    m = given[0]
    need_place(m)
    places[m] = new_net()
    return number_alone(0)


def call_state(places, given):
    m = given[0]
    return number_alone(add_state(machine_at(places, m)))


def call_final(places, given):
    m, state, yes = given
    set_final(machine_at(places, m), state, yes)
    return number_alone(0)


def call_arc(places, given):
    m, start, reads, writes, to = given
    add_arc(machine_at(places, m), start, reads, writes, to)
    return number_alone(0)


def call_turn(places, given):
    m = given[0]
    turn_round(machine_at(places, m))
    return number_alone(0)


def call_join(places, given):
    d, a, b = given
    first, second = parts_for(places, d, [a, b])
    places[d] = joined(first, second)
    return number_alone(0)


def call_follow(places, given):
    d, a, b = given
    first, second = parts_for(places, d, [a, b])
    places[d] = followed(first, second)
    return number_alone(0)


def call_again(places, given):
    d, a = given
    part = parts_for(places, d, [a])[0]
    places[d] = repeated(part)
    return number_alone(0)


def call_behind(places, given):
    d, a, b = given
    first, second = parts_for(places, d, [a, b])
    places[d] = behind_another(first, second)
    return number_alone(0)


def call_keep(places, given):
    d, a = given
    part = parts_for(places, d, [a])[0]
    places[d] = own_words(part)
    return number_alone(0)


def call_size(places, given):
    m = given[0]
    states, arcs = machine_at(places, m).two_numbers()
    return number_and_list(0, [states, arcs])


def call_next(places, given):
    m, x = given
    machine = machine_at(places, m)
    need_short([x])
    return length_and_word(first_word(machine, x))


def call_later(places, given):
    m, x, p = given
    machine = machine_at(places, m)
    need_short([x, p])
    return length_and_word(word_after(machine, x, p))


def call_holds(places, given):
    m, x, y = given
    machine = machine_at(places, m)
    need_short([x, y])
    return number_alone(1 if turns_into(machine, x, y) else 0)


def call_endless(places, given):
    m, x = given
    machine = machine_at(places, m)
    need_short([x])
    return number_alone(1 if turns_without_end(machine, x) else 0)


# By the number of a call: what does it, how many whole numbers it has behind its own, and how many rows.
CALLS = {
    1: (call_new, 1, 0),
    2: (call_state, 1, 0),
    3: (call_final, 3, 0),
    4: (call_arc, 5, 0),
    5: (call_turn, 1, 0),
    6: (call_join, 3, 0),
    7: (call_follow, 3, 0),
    8: (call_again, 2, 0),
    9: (call_behind, 3, 0),
    10: (call_keep, 2, 0),
    11: (call_size, 1, 0),
    12: (call_next, 1, 1),
    13: (call_later, 1, 2),
    14: (call_holds, 1, 2),
    15: (call_endless, 1, 1),
}


def answer_of(call, places, given):
    try:
        return call(places, given)
    except PlaceAbove:
        return number_alone(-1)
    except NoSuchPart:
        return number_alone(-1)
    except NoRoom:
        return number_alone(-2)
    except TooLong:
        return number_alone(-2)
    except NotBuilding:
        return number_alone(-3)
    except NoWord:
        return number_alone(-4)
    except NoMachine:
        return number_alone(-8)


def answers(calls):
    places = [None] * PLACES
    answered = []
    at = 0
    while at < len(calls):
        call, width, rows = CALLS[calls[at]]
        start = at + 1
        at = start + width
        given = calls[start:at]
        while len(given) < width + rows:
            start = at + 1
            at = start + calls[at]
            given.append(calls[start:at])
        answer = answer_of(call, places, given)
        answered.append(len(answer))
        answered.extend(answer)
    return answered
