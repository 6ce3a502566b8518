"""The run of a function, from block 0 on, with given values."""

from blockflow.body import ADD, BRANCH_END, COPY, LESS, NO_END, NUMBER, RET_END, SUBTRACT

USED_UP = -1
NO_WAY_ON = -3

ALL_LONGS = 18446744073709551616
LONGS_FROM_0 = 9223372036854775808


def as_long(number):
    # What is beyond 64 bits is dropped, and the highest of them is the sign.
    return (number + LONGS_FROM_0) % ALL_LONGS - LONGS_FROM_0


def step_value(values, op, x, y):
    if op == NUMBER:
        return y
    if op == COPY:
        return values[x]
    if op == LESS:
        return 1 if values[x] < values[y] else 0
    if op == ADD:
        return as_long(values[x] + values[y])
    if op == SUBTRACT:
        return as_long(values[x] - values[y])
    return as_long(values[x] * values[y])


def take_steps(values, steps):
    for op, d, x, y in steps:
        values[d] = step_value(values, op, x, y)


def goal_of(block, values):
    if block.end == BRANCH_END and values[block.variable] == 0:
        return block.goals[1]
    return block.goals[0]


def run(body, steps, given):
    values = list(given)
    left = steps
    b = 0
    while body.has_block(b):
        block = body.blocks[b]
        left = left - len(block.steps)
        if left < 0:
            return [USED_UP]
        take_steps(values, block.steps)
        # A missing end counts none, so it is told even where no step is left.
        if block.end == NO_END:
            return [NO_WAY_ON]
        left = left - 1
        if left < 0:
            return [USED_UP]
        if block.end == RET_END:
            return [0, values[block.variable]]
        b = goal_of(block, values)
    return [NO_WAY_ON]
