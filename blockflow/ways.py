"""The ways through a function's blocks: what is reached, and who stands over whom."""

from blockflow.body import REFUSED

NO_BLOCK = -1


def holds(blocks, b):
    return blocks >> b & 1 == 1


def behind(body, b):
    return [c for c in body.blocks[b].goals if body.has_block(c)]


def behind_each(body):
    return [behind(body, b) for b in range(len(body.blocks))]


def reached_without(leads, a):
    # The set of blocks that block 0 leads to on ways that do not come by a.
    found = 0
    waiting = [0] if len(leads) > 0 else []
    while len(waiting) > 0:
        b = waiting.pop()
        if b != a and not holds(found, b):
            found = found | (1 << b)
            waiting.extend(leads[b])
    return found


def under_each(body):
    # For each block the set of those that it is over. Where it is not reached itself,
    # leaving it out loses nothing, so it is over none.
    leads = behind_each(body)
    reached = reached_without(leads, NO_BLOCK)
    return [reached ^ reached_without(leads, a) for a in range(len(leads))]


def over(body, a, b):
    if not body.has_block(a) or not body.has_block(b):
        return REFUSED
    leads = behind_each(body)
    under = reached_without(leads, NO_BLOCK) ^ reached_without(leads, a)
    return 1 if holds(under, b) else 0


def idom(body, b):
    if not body.has_block(b):
        return REFUSED
    under = under_each(body)
    above = [a for a in range(len(under)) if a != b and holds(under[a], b)]
    for c in above:
        if all([holds(under[a], c) for a in above]):
            return c
    return NO_BLOCK
