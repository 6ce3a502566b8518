"""A function's blocks: how they are made, get their steps and get their ends."""

REFUSED = -2

MOST_BLOCKS = 64
MOST_STEPS = 16
VARIABLES = 32

ADD = 0
SUBTRACT = 1
MULTIPLY = 2
LESS = 3
COPY = 4
NUMBER = 5

NO_END = 0
JUMP_END = 1
BRANCH_END = 2
RET_END = 3


def is_variable(v):
    return 0 <= v < VARIABLES


def is_goal(to):
    # A way may lead to a block that only comes later, so how many there are now is not asked.
    return 0 <= to < MOST_BLOCKS


def reads_x(op):
    return ADD <= op <= COPY


def reads_y(op):
    return ADD <= op <= LESS


def is_step(op, d, x, y):
    if not ADD <= op <= NUMBER or not is_variable(d):
        return False
    if reads_x(op) and not is_variable(x):
        return False
    return is_variable(y) or not reads_y(op)


class Block:
    def __init__(self):
        # A step is a tuple (op, d, x, y).
        self.steps = []
        self.end = NO_END
        # What a branch asks, or a ret gives back.
        self.variable = 0
        # Of a jump (to,), of a branch (yes, no), else empty.
        self.goals = ()


class Body:
    def __init__(self):
        self.blocks = []

    def init(self):
        self.blocks = []
        return 0

    def block(self):
        number = len(self.blocks)
        if number == MOST_BLOCKS:
            return REFUSED
        self.blocks.append(Block())
        return number

    def has_block(self, b):
        return 0 <= b < len(self.blocks)

    def is_unended(self, b):
        return self.has_block(b) and self.blocks[b].end == NO_END

    def op(self, b, op, d, x, y):
        if not self.is_unended(b) or not is_step(op, d, x, y):
            return REFUSED
        steps = self.blocks[b].steps
        if len(steps) == MOST_STEPS:
            return REFUSED
        steps.append((op, d, x, y))
        return 0

    def jump(self, b, to):
        if not self.is_unended(b) or not is_goal(to):
            return REFUSED
        ended = self.blocks[b]
        ended.end = JUMP_END
        ended.goals = (to,)
        return 0

    def branch(self, b, v, yes, no):
        if not self.is_unended(b) or not is_variable(v):
            return REFUSED
        if not is_goal(yes) or not is_goal(no):
            return REFUSED
        ended = self.blocks[b]
        ended.end = BRANCH_END
        ended.variable = v
        ended.goals = (yes, no)
        return 0

    def ret(self, b, v):
        if not self.is_unended(b) or not is_variable(v):
            return REFUSED
        ended = self.blocks[b]
        ended.end = RET_END
        ended.variable = v
        return 0
