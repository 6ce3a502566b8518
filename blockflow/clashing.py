"""Which variables clash, as both are needed at once, and the registers that they get."""

from blockflow.body import COPY, REFUSED, VARIABLES, is_variable
from blockflow.living import ahead_of_step, in_any, in_each, used_by_end
from blockflow.ways import NO_BLOCK, behind_each, holds, reached_without

TOO_FEW = -1


def mark_steps(clashes, block, live):
    # live: what is used on from right behind the block's end.
    live = live | used_by_end(block)
    for op, d, x, y in reversed(block.steps):
        others = live
        if op == COPY:
            # Behind it both have one value, so one place can hold them.
            others = others & ~(1 << x)
        clashes[d] = clashes[d] | others
        live = ahead_of_step(live, op, d, x, y)


def both_ways(clashes):
    # The same with each clash told of both, and none of a variable with itself.
    found = []
    for v in range(VARIABLES):
        with_v = clashes[v]
        for w in range(VARIABLES):
            if holds(clashes[w], v):
                with_v = with_v | (1 << w)
        found.append(with_v & ~(1 << v))
    return found


def clash_each(body):
    leads = behind_each(body)
    ins = in_each(body)
    reached = reached_without(leads, NO_BLOCK)
    first = ins[0] if body.has_block(0) else 0
    clashes = [first if holds(first, v) else 0 for v in range(VARIABLES)]
    for b, block in enumerate(body.blocks):
        if holds(reached, b):
            mark_steps(clashes, block, in_any(ins, leads[b]))
    return both_ways(clashes)


def clash(body, v):
    if not is_variable(v):
        return 0
    return clash_each(body)[v]


def least_free(taken):
    place = 0
    while place in taken:
        place = place + 1
    return place


def registers(body, k):
    if not 1 <= k <= VARIABLES:
        return [REFUSED]
    clashes = clash_each(body)
    places = []
    for v in range(VARIABLES):
        places.append(least_free([places[w] for w in range(v) if holds(clashes[v], w)]))
    many = max(places) + 1
    return [many] + places if many <= k else [TOO_FEW]
