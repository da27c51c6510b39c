"""What machines turn into what, straight by the words of their making: a second telling beside the program.

A machine is a tree of its makings: ("net", finals, arcs), ("join", a, b), ("follow", a, b), ("again", a),
("behind", a, b), ("keep", a), ("turn", a). Where a way stands in it is told by a stand, whose form each making has
of its own; no net is ever made of the made machines, and nothing is counted by circles.
"""

NOTHING = -1


def begin(tree):
    kind = tree[0]
    if kind == "net":
        return 0
    if kind in ("join", "again"):
        return "before"
    if kind == "follow":
        return 0, begin(tree[1])
    if kind == "behind":
        return begin(tree[1]), begin(tree[2])
    return begin(tree[1])


def at_end(tree, stand):
    kind = tree[0]
    if kind == "net":
        return stand in tree[1]
    if kind == "join":
        return stand != "before" and at_end(tree[1 + stand[0]], stand[1])
    if kind == "follow":
        return stand[0] == 1 and at_end(tree[2], stand[1])
    if kind == "again":
        return stand == "before"
    if kind == "behind":
        return at_end(tree[1], stand[0]) and at_end(tree[2], stand[1])
    return at_end(tree[1], stand)


def moves(tree, stand):
    """All single moves from a stand: what is read, what is written, and the stand behind it."""
    return {"net": net_moves, "join": join_moves, "follow": follow_moves, "again": again_moves,
            "behind": behind_moves, "keep": keep_moves, "turn": turn_moves}[tree[0]](tree, stand)


def net_moves(tree, stand):
    return [(reads, writes, to) for start, reads, writes, to in tree[2] if start == stand]


def join_moves(tree, stand):
    if stand == "before":
        return [(NOTHING, NOTHING, (part, begin(tree[1 + part]))) for part in (0, 1)]
    part, inner = stand
    return [(reads, writes, (part, to)) for reads, writes, to in moves(tree[1 + part], inner)]


def follow_moves(tree, stand):
    part, inner = stand
    told = [(reads, writes, (part, to)) for reads, writes, to in moves(tree[1 + part], inner)]
    if part == 0 and at_end(tree[1], inner):
        told.append((NOTHING, NOTHING, (1, begin(tree[2]))))
    return told


def again_moves(tree, stand):
    if stand == "before":
        return [(NOTHING, NOTHING, ("within", begin(tree[1])))]
    told = [(reads, writes, ("within", to)) for reads, writes, to in moves(tree[1], stand[1])]
    if at_end(tree[1], stand[1]):
        told.append((NOTHING, NOTHING, "before"))
    return told


def behind_moves(tree, stand):
    first, second = stand
    told = []
    for reads, writes, to in moves(tree[1], first):
        if writes == NOTHING:
            told.append((reads, NOTHING, (to, second)))
        for second_reads, second_writes, second_to in moves(tree[2], second):
            if writes != NOTHING and second_reads == writes:
                told.append((reads, second_writes, (to, second_to)))
    for reads, writes, to in moves(tree[2], second):
        if reads == NOTHING:
            told.append((NOTHING, writes, (first, to)))
    return told


def keep_moves(tree, stand):
    return [(reads, reads, to) for reads, writes, to in moves(tree[1], stand)]


def turn_moves(tree, stand):
    return [(writes, reads, to) for reads, writes, to in moves(tree[1], stand)]


def steps(tree, x, point):
    """From a point, a stand and how many bytes of x are read: what is written, and the point behind it."""
    stand, read = point
    for reads, writes, to in moves(tree, stand):
        if reads == NOTHING:
            yield writes, (to, read)
        elif x[read:read + 1] == bytes([reads]):
            yield writes, (to, read + 1)


def spread(tree, x, points):
    """The points, and all that can be come to from them without writing."""
    seen = set(points)
    waiting = list(points)
    while waiting:
        for writes, to in steps(tree, x, waiting.pop()):
            if writes == NOTHING and to not in seen:
                seen.add(to)
                waiting.append(to)
    return seen


def done(tree, x, points):
    return any(read == len(x) and at_end(tree, stand) for stand, read in points)


def written_on(tree, x, points):
    """For each byte that can be written next the points behind it."""
    behind = {}
    for point in points:
        for writes, to in steps(tree, x, point):
            if writes != NOTHING:
                behind.setdefault(writes, set()).add(to)
    return {writes: spread(tree, x, found) for writes, found in behind.items()}


def holds(tree, x, y):
    points = spread(tree, x, {(begin(tree), 0)})
    for byte in y:
        points = written_on(tree, x, points).get(byte, set())
    return done(tree, x, points)


def words(tree, x, longest, widest):
    """All words of up to longest bytes in their order, and up to what length; no further than widest beginnings."""
    told = []
    level = {b"": spread(tree, x, {(begin(tree), 0)})}
    for length in range(longest + 1):
        told += [word for word in sorted(level) if done(tree, x, level[word])]
        further = {}
        for word in level:
            for byte, points in written_on(tree, x, level[word]).items():
                further[word + bytes([byte])] = points
        if len(further) > widest:
            return told, length
        level = further
    return told, longest


def all_points(tree, x):
    seen = {(begin(tree), 0)}
    waiting = list(seen)
    while waiting:
        for writes, to in steps(tree, x, waiting.pop()):
            if to not in seen:
                seen.add(to)
                waiting.append(to)
    return seen


def endless(tree, x):
    """There are words without end just if there is one of as many bytes as there are points, and below twice that."""
    count = len(all_points(tree, x))
    points = spread(tree, x, {(begin(tree), 0)})
    for length in range(2 * count):
        if length >= count and done(tree, x, points):
            return True
        points = set().union(*written_on(tree, x, points).values())
    return False
