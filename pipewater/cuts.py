"""The fewest valves that keep water away from a pipe.

Areas are joined by valves alone, so this is a least cut between two areas: as many valves as there are ways from
one to the other of which no two have a valve in common.
"""

from pipewater.errors import NothingHelps, TooMany
from pipewater.ways import WATERED, areas

MOST_VALVES = 12


def fewest_valves(system, pipe):
    """The fewest valves, rising, with which shut the pipe isn't come to; of rows of so few the first."""
    valves = system.valves()
    if len(valves) > MOST_VALVES:
        raise TooMany()
    area_of = areas(system)
    target = area_of[pipe]
    if target == WATERED:
        raise NothingHelps()
    sides = {}
    for valve in valves:
        sides[valve] = [area_of[side] for side in system.joints[valve].pipes]
    return first_row(valves, sides, target)


def first_row(valves, sides, target):
    """A valve is in a least cut just if without it there is a way fewer; the least such one begins the first row."""
    row = []
    kept = valves
    ways = count_ways(kept, sides, target)
    for valve in valves:
        others = [other for other in kept if other != valve]
        fewer = count_ways(others, sides, target)
        if fewer < ways:
            row.append(valve)
            kept = others
            ways = fewer
    return row


def count_ways(valves, sides, target):
    """How many ways there are from WATERED to the target, no two through one valve."""
    # Passage 2k goes through the k-th valve, 2k + 1 back through it; what goes one way makes room for the other.
    passages = []
    for valve in valves:
        passages.append((sides[valve][0], sides[valve][1]))
        passages.append((sides[valve][1], sides[valve][0]))
    room = [1] * len(passages)
    ways = 0
    way = find_way(passages, room, target)
    while way != []:
        for passage in way:
            room[passage] -= 1
            room[passage ^ 1] += 1
        ways += 1
        way = find_way(passages, room, target)
    return ways


def find_way(passages, room, target):
    """The passages of a way from the target back to WATERED, all with room; none if there is no such way."""
    came_by = {WATERED: None}
    found = [WATERED]
    done = 0
    while done < len(found) and target not in came_by:
        for passage, pair in enumerate(passages):
            if pair[0] == found[done] and room[passage] > 0 and pair[1] not in came_by:
                came_by[pair[1]] = passage
                found.append(pair[1])
        done += 1
    way = []
    if target in came_by:
        passage = came_by[target]
        while passage is not None:
            way.append(passage)
            passage = came_by[passages[passage][0]]
    return way
