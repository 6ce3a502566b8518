"""The fronts of blocks, where what they are over ends, and the loops that lead back to a block."""

from blockflow.ways import NO_BLOCK, behind_each, holds, reached_without, under


def front_of(leads, below, b):
    # below: the set of blocks that b is over.
    found = 0
    for p, goals in enumerate(leads):
        if holds(below, p):
            for c in goals:
                found = found | (1 << c)
    return found & ~below | found & (1 << b)


def front(body, b):
    if not body.has_block(b):
        return 0
    leads = behind_each(body)
    return front_of(leads, under(leads, b), b)


def coming_to(leads, goals, b):
    # The set of blocks from which one of the goals is come to on a way that does not come by b.
    found = 0
    waiting = list(goals)
    while len(waiting) > 0:
        c = waiting.pop()
        if c != b and not holds(found, c):
            found = found | (1 << c)
            waiting.extend([p for p in range(len(leads)) if c in leads[p]])
    return found


def loop(body, b):
    if not body.has_block(b):
        return 0
    leads = behind_each(body)
    below = under(leads, b)
    turning = [p for p in range(len(leads)) if holds(below, p) and b in leads[p]]
    if len(turning) == 0:
        return 0
    # A block that is not reached may lead into the loop, and is not in it.
    return 1 << b | coming_to(leads, turning, b) & reached_without(leads, NO_BLOCK)
