"""Writes calls by name into the list that the desk takes, and parts its answer call by call."""

import itertools

from blockflow.desk import answers

CALLS = {
    "init": 0, "block": 1, "op": 2, "jump": 3, "branch": 4, "ret": 5,
    "over": 6, "idom": 7, "front": 8, "loop": 9, "in_of": 10, "out": 11, "meet": 12, "clash": 13, "registers": 14,
    "run": 15,
}

LEAST = -2147483648
MOST = 2147483647
LEAST_LONG = -(2 ** 63)
MOST_LONG = 2 ** 63 - 1
ZEROS = [0] * 32


def variables(**given):
    """32 values, all 0 but those given as v0=.., v31=.."""
    values = [0] * 32
    for name, value in given.items():
        values[int(name[1:])] = value
    return values


def written(calls):
    """The calls, each a tuple of a name and its arguments, as the one list of numbers."""
    numbers = []
    for call in calls:
        numbers.append(CALLS[call[0]])
        for argument in call[1:]:
            if isinstance(argument, list):
                numbers.append(len(argument))
                numbers.extend(argument)
            else:
                numbers.append(argument)
    return numbers


def parted(numbers):
    """The desk's answer as a list of answers, each the list of its numbers."""
    parts = []
    place = 0
    while place < len(numbers):
        past = place + 1 + numbers[place]
        assert past <= len(numbers), "an answer is cut off"
        parts.append(numbers[place + 1:past])
        place = past
    return parts


def ask(calls):
    """For each call its answer: the number, or where there are several the list of them."""
    parts = parted(answers(written(calls)))
    assert len(parts) == len(calls), "not one answer a call"
    return [part[0] if len(part) == 1 else part for part in parts]


def last(calls):
    return ask(calls)[-1]


def blocks(count):
    return [("block",)] * count


def of(*members):
    """The set of these blocks or variables, as the number that the desk answers."""
    return sum(1 << member for member in set(members))


def ending(b, goals):
    """The call that makes the goals b's end; goals: None for no end, () for a ret."""
    if goals is None:
        return []
    if len(goals) == 0:
        return [("ret", b, 0)]
    if len(goals) == 1:
        return [("jump", b, goals[0])]
    return [("branch", b, 0, goals[0], goals[1])]


def built(graph):
    calls = blocks(len(graph))
    for b, goals in enumerate(graph):
        calls += ending(b, goals)
    return calls


def made(function):
    """The calls that make a function: for each block its steps, each (op, d, x, y), and its end, a name with its
    arguments but b, or None."""
    calls = blocks(len(function))
    for b, (steps, end) in enumerate(function):
        calls += [("op", b) + step for step in steps]
        if end is not None:
            calls.append((end[0], b) + end[1:])
    return calls


def asked_of(calls, asked):
    """What is answered to the calls asked, which stand behind the others."""
    return ask(calls + asked)[len(calls):]


def each(name, calls, count):
    """The answers to the call of that name, of 0, of 1 and so on."""
    return asked_of(calls, [(name, number) for number in range(count)])


def graphs_of_three():
    goals = range(4)
    choices = [None, ()] + [(c,) for c in goals] + [(c, d) for c in goals for d in goals if c < d]
    return itertools.product(choices, repeat=3)


def ways_to_all(graph):
    """For each block the ways from block 0 to it that come by no block twice, each as its blocks."""
    ways = [[] for goals in graph]
    pending = [(0,)]
    while pending:
        way = pending.pop()
        ways[way[-1]].append(way)
        for c in graph[way[-1]] or ():
            if c < len(graph) and c not in way:
                pending.append(way + (c,))
    return ways


def meant_over(graph):
    table = []
    for ways in ways_to_all(graph):
        common = set(ways[0]) if ways else set()
        for way in ways:
            common &= set(way)
        table.append(sorted(common))
    return table
