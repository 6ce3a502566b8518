"""Writes calls by name into the list that the desk takes, and parts its answer call by call."""

from blockflow.desk import answers

CALLS = {
    "init": 0, "block": 1, "op": 2, "jump": 3, "branch": 4, "ret": 5,
    "over": 6, "idom": 7, "run": 15,
}

LEAST_LONG = -(2 ** 63)
MOST_LONG = 2 ** 63 - 1
ZEROS = [0] * 32


def variables(**given):
    """32 values, all 0 but those given as v0=.., v31=.."""
    values = [0] * 32
    for name, value in given.items():
        values[int(name[1:])] = value
    return values


def written(calls):
    """The calls, each a tuple of a name and its arguments, as the one list of numbers."""
    numbers = []
    for call in calls:
        numbers.append(CALLS[call[0]])
        for argument in call[1:]:
            if isinstance(argument, list):
                numbers.append(len(argument))
                numbers.extend(argument)
            else:
                numbers.append(argument)
    return numbers


def parted(numbers):
    """The desk's answer as a list of answers, each the list of its numbers."""
    parts = []
    place = 0
    while place < len(numbers):
        past = place + 1 + numbers[place]
        assert past <= len(numbers), "an answer is cut off"
        parts.append(numbers[place + 1:past])
        place = past
    return parts


def ask(calls):
    """For each call its answer: the number, or where there are several the list of them."""
    parts = parted(answers(written(calls)))
    assert len(parts) == len(calls), "not one answer a call"
    return [part[0] if len(part) == 1 else part for part in parts]


def last(calls):
    return ask(calls)[-1]


def blocks(count):
    return [("block",)] * count
