"""What a machine turns a word x into, found by the points that its ways come to.

No way is followed on its own: there may be very many of them, and some have no end. The points are few, a state's
as many as the bytes of x and one, so each walk over them ends.
"""

from turnwords.machines import NOTHING
from turnwords.points import START, all_leading_to, all_led_to, arcs_reading, end_points, led_to, point_of
from turnwords.points import point_table, stepped_back, stepped_on, steps_of
from turnwords.refusals import NoWord

LONGEST = 16


def silent_arcs(machine):
    return [(start, reads, writes, to) for start, reads, writes, to in machine.arcs if writes == NOTHING]


def writing_arcs(machine):
    return [(start, reads, writes, to) for start, reads, writes, to in machine.arcs if writes != NOTHING]


def written_by(step):
    start_bit, where, to_bit, writes = step
    return writes


class Ways:
    """The ways of a machine that read x; they are followed byte by byte of what they write."""

    def __init__(self, machine, x):
        self.table = point_table(len(machine.finals), silent_arcs(machine), x)
        # The smaller byte comes first, so the first step that will do writes the smallest byte.
        self.steps = sorted(steps_of(writing_arcs(machine), x), key=written_by)
        self.ends = end_points(machine, x)

    def beginning(self):
        return all_led_to(START, self.table)

    def after(self, points, byte):
        led = 0
        for step in self.steps:
            if written_by(step) == byte:
                led |= stepped_on(points, step)
        return all_led_to(led, self.table)

    def hopeful(self):
        """By each number of bytes up to LONGEST: from where a way can write just as many and be at its end."""
        rows = [all_leading_to(self.ends, self.table)]
        while len(rows) <= LONGEST:
            before = 0
            for step in self.steps:
                before |= stepped_back(rows[-1], step)
            rows.append(all_leading_to(before, self.table))
        return rows

    def smallest_byte(self, points, wanted, least):
        """The smallest byte from least on whose writing leads to a wanted point; None if there is none."""
        for step in self.steps:
            if written_by(step) >= least and (stepped_on(points, step) & wanted) != 0:
                return written_by(step)
        return None


def smallest_word(ways, hopeful, points, length):
    """The smallest word of this length that can be written from these points; there must be one."""
    word = []
    for left in range(length - 1, -1, -1):
        byte = ways.smallest_byte(points, hopeful[left], 0)
        word.append(byte)
        points = ways.after(points, byte)
    return word


def first_from(ways, hopeful, least):
    """The first word of least bytes or more."""
    points = ways.beginning()
    for length in range(least, LONGEST + 1):
        if (points & hopeful[length]) != 0:
            return smallest_word(ways, hopeful, points, length)
    raise NoWord()


def first_word(machine, x):
    ways = Ways(machine, x)
    return first_from(ways, ways.hopeful(), 0)


def word_after(machine, x, p):
    ways = Ways(machine, x)
    hopeful = ways.hopeful()
    came = [ways.beginning()]
    for byte in p:
        came.append(ways.after(came[-1], byte))
    # The more bytes of p a word of its length begins with, the sooner it comes after p.
    for kept in range(len(p) - 1, -1, -1):
        left = len(p) - kept - 1
        byte = ways.smallest_byte(came[kept], hopeful[left], p[kept] + 1)
        if byte is not None:
            points = ways.after(came[kept], byte)
            return p[:kept] + [byte] + smallest_word(ways, hopeful, points, left)
    return first_from(ways, hopeful, len(p) + 1)


def turns_into(machine, x, y):
    ways = Ways(machine, x)
    points = ways.beginning()
    for byte in y:
        points = ways.after(points, byte)
    return (points & ways.ends) != 0


def growing_states(machine):
    """The states from which a way can come back to them having read nothing, but written something."""
    unread = arcs_reading(machine.arcs, NOTHING)
    led = led_to(len(machine.finals), unread)
    return [start for start, reads, writes, to in unread if writes != NOTHING and start in led[to]]


def turns_without_end(machine, x):
    table = point_table(len(machine.finals), machine.arcs, x)
    useful = table[0] & all_leading_to(end_points(machine, x), table)
    for state in growing_states(machine):
        for read in range(len(x) + 1):
            if (useful >> point_of(x, state, read)) & 1:
                return True
    return False
