"""Answers against slow ones that follow the document's words to the letter, on systems and texts drawn by number."""

import itertools
import math
import random
import re
import unittest

from helper import answered, isolate, joint_of, network, off, pipe_of, reach, read

STEPS = {"e": (1, 0, 0), "w": (-1, 0, 0), "n": (0, 1, 0), "s": (0, -1, 0), "u": (0, 0, 1), "d": (0, 0, -1),
         "ne": (1, 1, 0), "se": (1, -1, 0), "nw": (-1, 1, 0), "sw": (-1, -1, 0), "eu": (1, 0, 1), "ed": (1, 0, -1),
         "wu": (-1, 0, 1), "wd": (-1, 0, -1), "nu": (0, 1, 1), "nd": (0, 1, -1), "su": (0, -1, 1), "sd": (0, -1, -1)}
NUM = "(?:0|[1-9][0-9]{0,5})"
INT = "(?:0|-?[1-9][0-9]{0,5})"
NAME = "[a-z0-9]{1,16}"
FORM = re.compile(f"size {NUM}|from {NAME} {INT} {INT} {INT}|at {NAME}|go (?:{'|'.join(STEPS)}) {NUM}|node {NAME}"
                  f"|valve {NAME}|to {NAME}|end (?:open|cap|drain|source)")


def angle(one, two):
    product = sum(a * b for a, b in zip(one, two))
    size = math.sqrt(sum(a * a for a in one) * sum(b * b for b in two))
    return round(math.degrees(math.acos(max(-1, min(1, product / size)))))


class SlowSystem:
    """Tells of each line all the kinds of fault that it has, each for itself."""

    def __init__(self):
        self.places, self.named, self.valves, self.ends, self.pipes = [], {}, {}, {}, []
        self.radius, self.stand, self.pipes_of_route = 50, None, 0

    def leaving(self, joint):
        there = []
        for begin, finish, steps, radius in self.pipes:
            if begin == joint:
                there.append((steps, radius))
            if finish == joint:
                there.append((tuple(-step for step in steps), radius))
        return there

    def wrong_at(self, joint, steps, radius):
        there = self.leaving(joint)
        angles = [angle(steps, other) for other, size in there]
        wrong = len(there) + 1 > 4 or any(degrees not in (90, 135, 180) for degrees in angles)
        if joint in self.valves:
            wrong = wrong or len(there) + 1 != 2 or angles != [180]
        if len(there) == 1 and there[0][1] != radius:
            wrong = wrong or angles != [180]
        return wrong

    def kinds(self, line):
        if FORM.fullmatch(line) is None:
            return [1]
        words = line.split(" ")
        verb, kinds = words[0], []
        numbers = [int(word) for word in words[1:] if verb in ("size", "from", "go") and re.fullmatch(INT, word)]
        if verb == "from":
            numbers = [int(word) for word in words[2:]]
        least, most = {"size": (1, 2000), "go": (1, 100000)}.get(verb, (-100000, 100000))
        if any(number < least or number > most for number in numbers):
            kinds.append(2)
        if verb in ("from", "node", "valve") and (words[1] in self.named or words[1] in self.valves.values()):
            kinds.append(3)
        if verb in ("at", "to") and words[1] not in self.named:
            kinds.append(3)
        kinds += self.kinds_of_route(verb, words) + self.kinds_of_size(verb)
        return kinds

    def kinds_of_route(self, verb, words):
        kinds, under_way = [], self.stand is not None
        taken = self.stand in self.valves or self.stand in self.named.values()
        if verb in ("from", "at") and under_way or verb in ("go", "node", "valve", "to", "end") and not under_way:
            kinds.append(4)
        if under_way and verb in ("node", "valve", "to", "end") and taken:
            kinds.append(4)
        if under_way and verb in ("valve", "to", "end") and self.pipes_of_route == 0:
            kinds.append(4)
        if verb == "go" and under_way and self.wrong_at(self.stand, STEPS[words[1]], self.radius):
            kinds.append(5)
        if verb == "to" and under_way and words[1] in self.named and self.pipes_of_route > 0:
            last, joint = self.pipes[-1], self.named[words[1]]
            if self.wrong_at(joint, tuple(-step for step in last[2]), last[3]):
                kinds.append(5)
            if self.places[joint] != self.places[self.stand]:
                kinds.append(6)
        return kinds

    def kinds_of_size(self, verb):
        if verb in ("from", "go") and len(self.places) == 1024 or verb == "go" and len(self.pipes) == 1024:
            return [8]
        return []

    def take(self, line):
        words = line.split(" ")
        verb = words[0]
        if verb == "size":
            self.radius = int(words[1])
        if verb == "from":
            self.stand, self.pipes_of_route = len(self.places), 0
            self.places.append([2000 * int(word) for word in words[2:]] + [0, 0, 0])
        if verb in ("from", "node"):
            self.named[words[1]] = self.stand
        if verb == "at":
            self.stand, self.pipes_of_route = self.named[words[1]], 0
        if verb == "valve":
            self.valves[self.stand] = words[1]
        if verb == "go":
            self.go(STEPS[words[1]], int(words[2]))
        if verb == "to":
            begin, finish, steps, radius = self.pipes.pop()
            self.pipes.append((begin, self.named[words[1]], steps, radius))
            self.places.pop()
        if verb == "end":
            self.ends[self.stand] = words[1]
        if verb in ("to", "end"):
            self.stand = None

    def go(self, steps, number):
        place = list(self.places[self.stand])
        slant = sum(abs(step) for step in steps) == 2
        for axis, step in enumerate(steps):
            place[axis + 3 * slant] += step * number * (1000 if slant else 2000)
        self.pipes.append((self.stand, len(self.places), steps, self.radius))
        self.stand = len(self.places)
        self.places.append(place)
        self.pipes_of_route += 1

    def come_to(self, shut):
        came = {k for k, pipe in enumerate(self.pipes) if "source" in (self.ends.get(pipe[0]), self.ends.get(pipe[1]))}
        more = True
        while more:
            wet = {joint for k in came for joint in self.pipes[k][:2]} - set(shut)
            more = {k for k, pipe in enumerate(self.pipes) if wet & set(pipe[:2])} - came
            came |= more
        return sorted(came)

    def isolate(self, pipe):
        if pipe >= len(self.pipes):
            return [-4]
        if len(self.valves) > 12:
            return [-2]
        for size in range(len(self.valves) + 1):
            for row in itertools.combinations(sorted(self.valves), size):
                if pipe not in self.come_to(row):
                    return [0, *row]
        return [-3]


def slow_read(text):
    """The answer to read, and the system that is read."""
    system = SlowSystem()
    rows = text.split("\n")
    for number, row in enumerate(rows[:-1]):
        kinds = system.kinds(row)
        if kinds:
            return [-100, min(kinds), number], system
        system.take(row)
    if rows[-1] != "":
        return [-100, 1, len(rows) - 1], system
    if system.stand is not None:
        return [-100, 9, len(rows) - 1], system
    return [0, len(system.places), len(system.pipes), len(system.valves), len(system.ends)], system


def drawn_line(draw, system):
    names = ["a", "b", "c", "d", "e", "f", "g", "h", "i", "j", "k", "l", "m", "n"]
    under_way = system.stand is not None
    verbs = ["go"] * 8 + ["node"] * 3 + ["valve", "to", "end"] if under_way else ["from", "at", "at", "at"]
    if draw.random() < 0.05:
        verbs = ["size", "from", "at", "go", "node", "valve", "to", "end"]
    verb = draw.choice(verbs)
    if verb == "size":
        return f"size {draw.choice([50, 50, 60, 0, 2001])}"
    if verb == "from":
        x, y, z = draw.randrange(-1, 2), draw.randrange(-1, 2), draw.choice([0, 0, 0, 100001])
        return f"from {draw.choice(names)} {x} {y} {z}"
    if verb == "go":
        return f"go {draw.choice(list(STEPS) + list('ewns') * 20)} {draw.choice([1, 1, 1, 1, 1, 1, 2, 0])}"
    if verb == "end":
        return f"end {draw.choice(['open', 'cap', 'drain', 'source', 'source', 'x'])}"
    return f"{verb} {draw.choice(names)}"


def homes(system):
    """The lines that end the route at a joint which has a name and stands just there."""
    if system.stand is None:
        return []
    there = [name for name, joint in system.named.items() if system.places[joint] == system.places[system.stand]]
    return [f"to {name}" for name in there if not system.kinds(f"to {name}")]


def closing_lines(draw, system):
    rows = []
    while system.stand is not None:
        choices = [f"go {word} 1" for word in STEPS] + ["end source", "end open"] * 9 + homes(system) * 90
        row = draw.choice([row for row in choices if not system.kinds(row)] or ["size 9"])
        system.take(row)
        rows.append(row)
        if row == "size 9":
            break
    return rows


def drawn_text(draw):
    """Lines without a fault; of every second text the last one or two may have one."""
    system, rows = SlowSystem(), []
    wrong = draw.random() < 0.5
    for number in range(draw.randrange(2, 60)):
        row = draw.choice(homes(system) or [drawn_line(draw, system)])
        while system.kinds(row) and not (wrong and number > 5 and draw.random() < 0.01):
            row = drawn_line(draw, system)
        rows.append(row)
        if system.kinds(row):
            return "".join(row + "\n" for row in rows)
        system.take(row)
    if not wrong:
        rows += closing_lines(draw, system)
    return "".join(row + "\n" for row in rows)[:None if not wrong or draw.random() < 0.8 else -1]


class DrawnTexts(unittest.TestCase):
    def test_read_reach_off_isolate(self):
        draw = random.Random(1)
        seen = {}
        for number in range(2000):
            text = drawn_text(draw)
            want, system = slow_read(text)
            self.assertEqual(answered(read(text))[0], want, text)
            seen[tuple(want[:2]) if want[0] else 0] = True
            if want[0] == 0 and len(system.valves) <= 6:
                self.compare(text, system, draw)
        self.assertEqual(set(seen), {0, (-100, 1), (-100, 2), (-100, 3), (-100, 4), (-100, 5), (-100, 6), (-100, 9)})

    def compare(self, text, system, draw):
        shut = sorted(joint for joint in system.valves if draw.random() < 0.5)
        pipe = draw.randrange(len(system.pipes) + 1)
        got = answered(read(text), reach(*shut), isolate(pipe), *[off(joint) for joint in range(len(system.places))])
        self.assertEqual(got[1], [0] + system.come_to(shut), text)
        self.assertEqual(got[2], system.isolate(pipe), text)
        for joint, answer in enumerate(got[3:]):
            want = [-1]
            if joint in system.valves:
                want = [0] + sorted(set(system.come_to([])) - set(system.come_to([joint])))
            self.assertEqual(answer, want, text)


def fewest(areas, sources, valves, target):
    """isolate on areas alone, by trying all rows in their order."""
    for size in range(len(valves) + 1):
        for row in itertools.combinations(range(len(valves)), size):
            came, more = set(sources), True
            while more:
                more = {area for i, pair in enumerate(valves) if i not in row and came & set(pair) for area in pair} - came
                came |= more
            if target not in came:
                return row
    return None


class DrawnNetworks(unittest.TestCase):
    def test_isolate(self):
        draw = random.Random(2)
        for number in range(300):
            areas = draw.randrange(2, 8)
            sources = draw.sample(range(areas), draw.choice([1, 1, 1, 2]))
            valves = [tuple(draw.sample(range(areas), 2)) for i in range(draw.randrange(13))]
            calls = [isolate(pipe_of(area, valves)) for area in range(areas)]
            got = answered(read(network(areas, sources, valves)), *calls)[1:]
            for area in range(areas):
                row = fewest(areas, sources, valves, area)
                want = [-3] if row is None else [0] + [joint_of(i, areas, valves) for i in row]
                self.assertEqual(got[area], want, (areas, sources, valves, area))

    def test_the_valves_told_do_it_and_more_shut_is_no_more_come_to(self):
        draw = random.Random(3)
        for number in range(100):
            areas = draw.randrange(2, 8)
            valves = [tuple(draw.sample(range(areas), 2)) for i in range(draw.randrange(1, 13))]
            text, pipe = network(areas, [0], valves), pipe_of(draw.randrange(1, areas), valves)
            row = answered(read(text), isolate(pipe))[1][1:]
            less = sorted(joint_of(i, areas, valves) for i in range(len(valves)) if draw.random() < 0.3)
            with_row, with_less, with_both = answered(read(text), reach(*row), reach(*less),
                                                      reach(*sorted({*row, *less})))[1:]
            self.assertNotIn(pipe, with_row[1:])
            self.assertLessEqual(set(with_both[1:]), set(with_row[1:]) & set(with_less[1:]))


if __name__ == "__main__":
    unittest.main()
