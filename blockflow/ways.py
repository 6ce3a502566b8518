"""The ways through a function's blocks: what is reached, and who stands over whom."""

from blockflow.body import REFUSED

NO_BLOCK = -1


def holds(numbered, i):
    # A set, of blocks or of variables, is a number with bit i for the one numbered i.
    return numbered >> i & 1 == 1


def behind(body, b):
    return [c for c in body.blocks[b].goals if body.has_block(c)]


def behind_each(body):
    return [behind(body, b) for b in range(len(body.blocks))]


def reached_without(leads, a):
    # The set of blocks that block 0 leads to on ways that do not come by a.
    found = 0
    waiting = [0] if len(leads) > 0 else []
    while len(waiting) > 0:
        b = waiting.pop()
        if b != a and not holds(found, b):
            found = found | (1 << b)
            waiting.extend(leads[b])
    return found


def under(leads, a):
    # The set of blocks that a is over. Where a is not reached itself, leaving it out
    # loses nothing, so it is over none.
    return reached_without(leads, NO_BLOCK) ^ reached_without(leads, a)


def under_each(leads):
    reached = reached_without(leads, NO_BLOCK)
    return [reached ^ reached_without(leads, a) for a in range(len(leads))]


def over(body, a, b):
    if not body.has_block(a) or not body.has_block(b):
        return REFUSED
    return 1 if holds(under(behind_each(body), a), b) else 0


def idom(body, b):
    if not body.has_block(b):
        return REFUSED
    unders = under_each(behind_each(body))
    above = [a for a in range(len(unders)) if a != b and holds(unders[a], b)]
    for c in above:
        if all([holds(unders[a], c) for a in above]):
            return c
    return NO_BLOCK
