"""The desk: a list of calls on one new function is handed in, the list of their answers is given back."""

from blockflow.body import Body
from blockflow.clashing import clash, registers
from blockflow.living import in_of, out
from blockflow.loops import front, loop
from blockflow.meeting import meet
from blockflow.running import run
from blockflow.ways import idom, over

INIT = 0
BLOCK = 1
OP = 2
JUMP = 3
BRANCH = 4
RET = 5
OVER = 6
IDOM = 7
FRONT = 8
LOOP = 9
IN_OF = 10
OUT = 11
MEET = 12
CLASH = 13
REGISTERS = 14
RUN = 15

# How many whole numbers each call has, ahead of its row.
NUMBERS_OF = (0, 0, 5, 2, 4, 2, 2, 1, 1, 1, 1, 1, 1, 1, 1, 1)


def changed(body, call, numbers):
    if call == INIT:
        return body.init()
    if call == BLOCK:
        return body.block()
    if call == OP:
        return body.op(numbers[0], numbers[1], numbers[2], numbers[3], numbers[4])
    if call == JUMP:
        return body.jump(numbers[0], numbers[1])
    if call == BRANCH:
        return body.branch(numbers[0], numbers[1], numbers[2], numbers[3])
    return body.ret(numbers[0], numbers[1])


def found(body, call, number):
    if call == IDOM:
        return idom(body, number)
    if call == FRONT:
        return front(body, number)
    if call == LOOP:
        return loop(body, number)
    if call == IN_OF:
        return in_of(body, number)
    if call == OUT:
        return out(body, number)
    if call == MEET:
        return meet(body, number)
    return clash(body, number)


def answer(body, call, numbers, row):
    if call <= RET:
        return [changed(body, call, numbers)]
    if call == OVER:
        return [over(body, numbers[0], numbers[1])]
    if call <= CLASH:
        return [found(body, call, numbers[0])]
    if call == REGISTERS:
        return registers(body, numbers[0])
    return run(body, numbers[0], row)


def answers(calls):
    body = Body()
    given = []
    place = 0
    while place < len(calls):
        call = calls[place]
        past = place + 1 + NUMBERS_OF[call]
        numbers = calls[place + 1:past]
        row = []
        if call == RUN:
            row = calls[past + 1:past + 1 + calls[past]]
            past = past + 1 + len(row)
        told = answer(body, call, numbers, row)
        given.append(len(told))
        given.extend(told)
        place = past
    return given
