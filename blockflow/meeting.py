"""Where values meet: the variables that need one value made of several at a block's beginning."""

from blockflow.body import VARIABLES
from blockflow.living import given_by, in_each
from blockflow.loops import front_of
from blockflow.ways import behind_each, holds, under_each


def front_each(leads):
    # For each block its front, as the list of the blocks in it.
    fronts = []
    for b, below in enumerate(under_each(leads)):
        found = front_of(leads, below, b)
        fronts.append([c for c in range(len(leads)) if holds(found, c)])
    return fronts


def made_each(body):
    made = [given_by(block) for block in body.blocks]
    # All variables have values already where block 0 begins.
    made[0] = (1 << VARIABLES) - 1
    return made


def meet_each(body):
    # A block that is not reached has an empty front and is in none, so it adds and gets nothing.
    fronts = front_each(behind_each(body))
    ins = in_each(body)
    made = made_each(body)
    meets = [0 for block in body.blocks]
    waiting = list(range(len(meets)))
    while len(waiting) > 0:
        c = waiting.pop()
        for b in fronts[c]:
            met = made[c] & ins[b] & ~meets[b]
            if met != 0:
                meets[b] = meets[b] | met
                made[b] = made[b] | met
                waiting.append(b)
    return meets


def meet(body, b):
    if not body.has_block(b):
        return 0
    return meet_each(body)[b]
