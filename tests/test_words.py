"""Promises 5 to 9 over many functions, against the document's words taken straight, way by way."""

import random
import unittest

from tests.helper import asked_of, built, graphs_of_three, made, meant_over, of

VARIABLES = [0, 1, 2, 3, 31]


def graph_of(function):
    """For each block the blocks that its end leads to, be they there or not."""
    goals = []
    for steps, end in function:
        if end is None or end[0] == "ret":
            goals.append(())
        else:
            goals.append(end[1:] if end[0] == "jump" else end[2:])
    return goals


def behind(graph, b):
    return [c for c in graph[b] or () if c < len(graph)]


def come_to(graph, first, without):
    """The blocks that are come to from first on, ways by the block `without` left out."""
    found = set()
    pending = [first]
    while pending:
        b = pending.pop()
        if b != without and b not in found:
            found.add(b)
            pending += behind(graph, b)
    return found


def meant_front(graph, b):
    overs = meant_over(graph)
    found = set()
    for p in range(len(graph)):
        if b in overs[p]:
            found.update(c for c in behind(graph, p) if b not in overs[c] or c == b)
    return found


def meant_loop(graph, b):
    overs = meant_over(graph)
    turning = {p for p in range(len(graph)) if b in overs[p] and b in behind(graph, p)}
    if not turning:
        return set()
    reached = come_to(graph, 0, None)
    return {b} | turning | {c for c in reached if come_to(graph, c, b) & turning}


def reads(op, x, y):
    return [x, y] if op <= 3 else [x] if op == 4 else []


def is_used_on(function, b, at, v):
    """Whether v is used on some way from ahead of b's step `at` on before it is given."""
    graph = graph_of(function)
    seen = set()
    pending = [(b, at)]
    while pending:
        place = pending.pop()
        if place in seen:
            continue
        seen.add(place)
        c, i = place
        steps, end = function[c]
        if i < len(steps):
            op, d, x, y = steps[i]
            if v in reads(op, x, y):
                return True
            if d != v:
                pending.append((c, i + 1))
        else:
            if end is not None and end[0] in ("branch", "ret") and end[1] == v:
                return True
            pending += [(goal, 0) for goal in behind(graph, c)]
    return False


def meant_in(function, b):
    return {v for v in range(32) if is_used_on(function, b, 0, v)}


def meant_out(function, b):
    found = set()
    for c in behind(graph_of(function), b):
        found |= meant_in(function, c)
    return found


def meant_meet(function):
    """For each block the variables that meet there: from none on, those that fit are added until no more do."""
    graph = graph_of(function)
    count = len(graph)
    reached = come_to(graph, 0, None)
    fronts = [meant_front(graph, b) for b in range(count)]
    ins = [meant_in(function, b) for b in range(count)]
    meets = [set() for b in range(count)]

    def fits(b, v):
        givers = [c for c in reached if c == 0 or v in meets[c] or any(step[1] == v for step in function[c][0])]
        return b in reached and v in ins[b] and any(b in fronts[c] for c in givers)

    added = True
    while added:
        added = False
        for b in range(count):
            for v in range(32):
                if v not in meets[b] and fits(b, v):
                    meets[b].add(v)
                    added = True
    return meets


def meant_clash(function):
    ins = meant_in(function, 0)
    table = [{w for w in ins if w != v} if v in ins else set() for v in range(32)]
    for b in come_to(graph_of(function), 0, None):
        for i, (op, d, x, y) in enumerate(function[b][0]):
            for w in range(32):
                if w != d and is_used_on(function, b, i + 1, w) and not (op == 4 and x == w):
                    table[d].add(w)
                    table[w].add(d)
    return table


def meant_registers(function):
    table = meant_clash(function)
    places = []
    for v in range(32):
        taken = {places[w] for w in table[v] if w < v}
        places.append(min(set(range(33)) - taken))
    return [len(set(places))] + places


def any_step(source):
    d, x, y = (source.choice(VARIABLES) for place in range(3))
    op = source.choice([0, 1, 2, 3, 4, 4, 4, 5])
    if op == 5:
        return (op, d, source.choice([-1, 1, 2]), source.choice([-7, 1, 2]))
    return (op, d, x, source.choice([-1, 1, 32]) if op == 4 else y)


def any_function(source):
    count = source.randint(1, 8)
    function = []
    for b in range(count):
        steps = [any_step(source) for step in range(source.randint(0, 3))]
        goals = [source.randint(0, count) for way in range(2)]
        v = source.choice(VARIABLES)
        ends = [None, ("ret", v), ("jump", goals[0])] + [("branch", v, goals[0], goals[1])] * 4
        function.append((steps, source.choice(ends)))
    return function


class AgainstTheWords(unittest.TestCase):
    def test_fronts_and_loops_of_every_function_of_three_blocks(self):
        for graph in graphs_of_three():
            told = asked_of(built(graph), [(name, b) for name in ("front", "loop") for b in range(3)])
            meant = [of(*meant_front(graph, b)) for b in range(3)] + [of(*meant_loop(graph, b)) for b in range(3)]
            self.assertEqual(told, meant, graph)

    def test_larger_functions(self):
        source = random.Random(45)
        for turn in range(300):
            function = any_function(source)
            graph = graph_of(function)
            meets = meant_meet(function)
            asked = []
            meant = []
            for b in range(len(function)):
                asked += [("front", b), ("loop", b), ("in_of", b), ("out", b), ("meet", b)]
                found = [meant_front(graph, b), meant_loop(graph, b), meant_in(function, b), meant_out(function, b)]
                meant += [of(*members) for members in found + [meets[b]]]
            asked += [("clash", v) for v in range(32)]
            meant += [of(*others) for others in meant_clash(function)]
            placed = meant_registers(function)
            asked += [("registers", placed[0]), ("registers", 32), ("registers", placed[0] - 1)]
            meant += [placed, placed, -1 if placed[0] > 1 else -2]
            self.assertEqual(asked_of(made(function), asked), meant, function)


if __name__ == "__main__":
    unittest.main()
