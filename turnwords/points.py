"""Points: where a way through a net can stand while it reads one word x.

A point is a state, and how many bytes of x are read. A set of points is one whole number with a bit for each: the
points of one state lie side by side, the one with nothing read first. A step is an arc as it leads from points to
points, a tuple (start_bit, where, to_bit, writes): where has a bit for each number of bytes read at which the arc
can be followed.
"""

from turnwords.machines import NOTHING, ends

START = 1


def point_of(x, state, read):
    return state * (len(x) + 1) + read


def end_points(machine, x):
    return sum([1 << point_of(x, state, len(x)) for state in ends(machine)])


def steps_of(arcs, x):
    steps = []
    for start, reads, writes, to in arcs:
        if reads == NOTHING:
            where = (1 << (len(x) + 1)) - 1
            steps.append((point_of(x, start, 0), where, point_of(x, to, 0), writes))
        elif reads in x:
            where = sum([1 << read for read, byte in enumerate(x) if byte == reads])
            steps.append((point_of(x, start, 0), where, point_of(x, to, 1), writes))
    return steps


def stepped_on(points, step):
    start_bit, where, to_bit, writes = step
    return ((points >> start_bit) & where) << to_bit


def stepped_back(points, step):
    start_bit, where, to_bit, writes = step
    return ((points >> to_bit) & where) << start_bit


def led_to(states, arcs):
    """For each state the states that these arcs lead to, itself among them, whatever they read."""
    led = [1 << state for state in range(states)]
    for start, reads, writes, to in arcs:
        led[start] |= 1 << to
    for middle in range(states):
        for start in range(states):
            if (led[start] >> middle) & 1:
                led[start] |= led[middle]
    return [[to for to in range(states) if (mask >> to) & 1] for mask in led]


def read_by(arc):
    start, reads, writes, to = arc
    return reads


def arcs_reading(arcs, reads):
    return [arc for arc in arcs if read_by(arc) == reads]


def point_table(states, arcs, x):
    """For each point the points that these arcs lead to from it, itself among them, whatever they write."""
    unread = led_to(states, arcs_reading(arcs, NOTHING))
    table = [0] * (states * (len(x) + 1))
    # From the end of x backwards: an arc that reads leads to a point whose row is there by then.
    for read in range(len(x), -1, -1):
        rows = [1 << point_of(x, state, read) for state in range(states)]
        if read < len(x):
            for start, reads, writes, to in arcs_reading(arcs, x[read]):
                rows[start] |= table[point_of(x, to, read + 1)]
        for state in range(states):
            for other in unread[state]:
                table[point_of(x, state, read)] |= rows[other]
    return table


def all_led_to(points, table):
    """The points themselves, and all that they lead to by the table."""
    led = 0
    left = points
    while left != 0:
        row = table[left.bit_length() - 1]
        led |= row
        # What a point of the row leads to is in the row as well, so it needs no look of its own.
        left &= ~row
    return led


def all_leading_to(points, table):
    """The points themselves, and all that lead to one of them by the table."""
    return sum([1 << point for point, row in enumerate(table) if (row & points) != 0])
