"""Machines: nets that are being built, and machines made of others, which are kept as nets too.

A net has a list of its states, True for each final one, and a list of its arcs, each a tuple
(start, reads, writes, to), where NOTHING stands for nothing read or written. State 0 is the first.
"""

from turnwords.refusals import NoRoom, NoSuchPart, NotBuilding

MOST_STATES = 24
MOST_ARCS = 300
MOST_BYTE = 255
NOTHING = -1


class Machine:
    def __init__(self, finals, arcs, told):
        self.finals = finals
        self.arcs = arcs
        # None while it is being built. A made machine counts by the two numbers of its making,
        # as the net that it is kept as may have fewer arcs than these tell.
        self.told = told

    def two_numbers(self):
        if self.told is None:
            return len(self.finals), len(self.arcs)
        return self.told


def new_net():
    return Machine([False], [], None)


def need_building(machine):
    if machine.told is not None:
        raise NotBuilding()


def need_state(net, state):
    if state >= len(net.finals):
        raise NoSuchPart()


def need_byte_or_nothing(label):
    if label < NOTHING or label > MOST_BYTE:
        raise NoSuchPart()


def add_state(net):
    need_building(net)
    if len(net.finals) >= MOST_STATES:
        raise NoRoom()
    net.finals.append(False)
    return len(net.finals) - 1


def set_final(net, state, yes):
    need_building(net)
    need_state(net, state)
    net.finals[state] = yes != 0


def add_arc(net, start, reads, writes, to):
    need_building(net)
    need_state(net, start)
    need_state(net, to)
    need_byte_or_nothing(reads)
    need_byte_or_nothing(writes)
    if len(net.arcs) >= MOST_ARCS:
        raise NoRoom()
    net.arcs.append((start, reads, writes, to))


def turn_round(machine):
    machine.arcs = [(start, writes, reads, to) for start, reads, writes, to in machine.arcs]


def joined(a, b):
    a_states, a_arcs = a.two_numbers()
    b_states, b_arcs = b.two_numbers()
    told = within_bounds(a_states + b_states + 1, a_arcs + b_arcs + 2)
    # A first state of its own: an arc that leads back to the first state of a must not reach b.
    b_first = 1 + len(a.finals)
    finals = [False] + a.finals + b.finals
    arcs = [linking_arc(0, 1), linking_arc(0, b_first)] + moved(a.arcs, 1) + moved(b.arcs, b_first)
    return Machine(finals, arcs, told)


def followed(a, b):
    a_states, a_arcs = a.two_numbers()
    b_states, b_arcs = b.two_numbers()
    told = within_bounds(a_states + b_states, a_arcs + b_arcs + a_states)
    b_first = len(a.finals)
    finals = [False] * b_first + b.finals
    arcs = a.arcs + moved(b.arcs, b_first) + [linking_arc(end, b_first) for end in ends(a)]
    return Machine(finals, arcs, told)


def repeated(a):
    a_states, a_arcs = a.two_numbers()
    told = within_bounds(a_states + 1, a_arcs + a_states + 1)
    # A first state of its own, and final: were the first state of a made final instead, a way
    # that comes back to it in the midst of a round could end there.
    finals = [True] + [False] * len(a.finals)
    arcs = [linking_arc(0, 1)] + moved(a.arcs, 1) + [linking_arc(1 + end, 0) for end in ends(a)]
    return Machine(finals, arcs, told)


def behind_another(a, b):
    a_states, a_arcs = a.two_numbers()
    b_states, b_arcs = b.two_numbers()
    told = within_bounds(a_states * b_states, a_arcs * b_arcs + a_arcs * b_states + a_states * b_arcs)
    # A state for each pair of states: what lies between them is never written down, so it may have any length.
    finals = []
    for final in a.finals:
        finals.extend([final and other for other in b.finals])
    return Machine(finals, arcs_of_first(a, b) + arcs_of_second_alone(a, b), told)


def arcs_of_first(a, b):
    width = len(b.finals)
    arcs = []
    for start, reads, writes, to in a.arcs:
        if writes == NOTHING:
            arcs.extend([(start * width + at, reads, NOTHING, to * width + at) for at in range(width)])
        else:
            arcs.extend([(start * width + b_start, reads, b_writes, to * width + b_to)
                         for b_start, b_reads, b_writes, b_to in b.arcs if b_reads == writes])
    return arcs


def arcs_of_second_alone(a, b):
    width = len(b.finals)
    arcs = []
    for start, reads, writes, to in b.arcs:
        if reads == NOTHING:
            arcs.extend([(at * width + start, NOTHING, writes, at * width + to) for at in range(len(a.finals))])
    return arcs


def own_words(a):
    arcs = [(start, reads, reads, to) for start, reads, writes, to in a.arcs]
    return Machine(list(a.finals), arcs, a.two_numbers())


def within_bounds(states, arcs):
    if states > MOST_STATES or arcs > MOST_ARCS:
        raise NoRoom()
    return states, arcs


def linking_arc(start, to):
    return start, NOTHING, NOTHING, to


def moved(arcs, by):
    return [(start + by, reads, writes, to + by) for start, reads, writes, to in arcs]


def ends(machine):
    return [state for state, final in enumerate(machine.finals) if final]
