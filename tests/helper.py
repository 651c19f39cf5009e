"""Lays calls into one list, as the interface asks, and takes the answers apart again."""

from pipewater.water import answers


def read(text):
    numbers = list(text) if isinstance(text, bytes) else list(text.encode("ascii"))
    return [1, len(numbers)] + numbers


def reach(*shut):
    return [2, len(shut)] + list(shut)


def off(joint):
    return [3, joint]


def isolate(pipe):
    return [4, pipe]


def level(joint, *shut):
    return [5, joint, len(shut)] + list(shut)


def wet(pipe, *shut):
    return [6, pipe, len(shut)] + list(shut)


def left(*shut):
    return [7, len(shut)] + list(shut)


def answered(*calls):
    """The answers to the calls, a list each, without their counts."""
    numbers = answers([number for call in calls for number in call])
    apart = []
    while numbers:
        apart.append(numbers[1:numbers[0] + 1])
        if len(apart[-1]) != numbers[0]:
            raise AssertionError("an answer is shorter than its count")
        numbers = numbers[numbers[0] + 1:]
    return apart


def answer_behind(text, *calls):
    """The answer to the last call, on an object that has read the text without a fault."""
    got = answered(read(text), *calls)
    if got[0][0] != 0:
        raise AssertionError(f"the text has a fault: {got[0]}")
    return got[-1]


def lines(*rows):
    return "".join([row + "\n" for row in rows])


def network(areas, sources, valves):
    """A text of so many areas, those of sources with a source, and of valves that join two of them each.

    Every area is a row of pipes to the east with a joint for each valve: area k's first pipe is pipe_of(k, valves).
    Valve i, a pair of areas, is at joint joint_of(i, areas, valves).
    """
    rows = []
    for area in range(areas):
        rows.append(f"from k{area} 0 {10 * area} 0")
        for i in range(len(valves)):
            rows += ["go e 10", f"node k{area}x{i}"]
        rows += ["go e 10", "end source" if area in sources else "end cap"]
    for i, (one, other) in enumerate(valves):
        word = "n" if one < other else "s"
        rows += [f"at k{one}x{i}", f"go {word} 5", f"valve v{i}", f"go {word} {10 * abs(other - one) - 5}",
                 f"to k{other}x{i}"]
    return lines(*rows)


def pipe_of(area, valves):
    return area * (len(valves) + 1)


def joint_of(i, areas, valves):
    return areas * (len(valves) + 2) + i
