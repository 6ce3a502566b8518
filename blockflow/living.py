"""What is live: the variables that are used on some way on before they are given."""

from blockflow.body import BRANCH_END, RET_END, reads_x, reads_y
from blockflow.ways import behind_each


def used_by_step(op, x, y):
    used = 0
    if reads_x(op):
        used = used | (1 << x)
    if reads_y(op):
        used = used | (1 << y)
    return used


def used_by_end(block):
    if block.end == BRANCH_END or block.end == RET_END:
        return 1 << block.variable
    return 0


def given_by(block):
    given = 0
    for op, d, x, y in block.steps:
        given = given | (1 << d)
    return given


def ahead_of_step(live, op, d, x, y):
    # What the step gives is taken out first: a step that does both uses first.
    return live & ~(1 << d) | used_by_step(op, x, y)


def used_first(block):
    # What is used in the block itself before it is given there.
    live = used_by_end(block)
    for op, d, x, y in reversed(block.steps):
        live = ahead_of_step(live, op, d, x, y)
    return live


def in_any(ins, goals):
    found = 0
    for c in goals:
        found = found | ins[c]
    return found


def in_each(body):
    leads = behind_each(body)
    ins = [used_first(block) for block in body.blocks]
    passed = [~given_by(block) for block in body.blocks]
    grown = True
    while grown:
        grown = False
        # Uses are carried against the ways, and these mostly lead to higher numbers.
        for b in range(len(leads) - 1, -1, -1):
            live = ins[b] | in_any(ins, leads[b]) & passed[b]
            if live != ins[b]:
                ins[b] = live
                grown = True
    return ins


def in_of(body, b):
    if not body.has_block(b):
        return 0
    return in_each(body)[b]


def out(body, b):
    if not body.has_block(b):
        return 0
    return in_any(in_each(body), behind_each(body)[b])
