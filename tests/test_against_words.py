"""Answers against slow ones that follow the document's words to the letter, on systems and texts drawn by number."""

import itertools
import math
import random
import re
import unittest
from fractions import Fraction

from helper import answered, isolate, joint_of, left, level, network, off, pipe_of, reach, read, wet

STEPS = {"e": (1, 0, 0), "w": (-1, 0, 0), "n": (0, 1, 0), "s": (0, -1, 0), "u": (0, 0, 1), "d": (0, 0, -1),
         "ne": (1, 1, 0), "se": (1, -1, 0), "nw": (-1, 1, 0), "sw": (-1, -1, 0), "eu": (1, 0, 1), "ed": (1, 0, -1),
         "wu": (-1, 0, 1), "wd": (-1, 0, -1), "nu": (0, 1, 1), "nd": (0, 1, -1), "su": (0, -1, 1), "sd": (0, -1, -1)}
NUM = "(?:0|[1-9][0-9]{0,5})"
INT = "(?:0|-?[1-9][0-9]{0,5})"
NAME = "[a-z0-9]{1,16}"
FORM = re.compile(f"size {NUM}|from {NAME} {INT} {INT} {INT}|at {NAME}|go (?:{'|'.join(STEPS)}) {NUM}|node {NAME}"
                  f"|valve {NAME}|to {NAME}|end (?:open|cap|drain|source)")


# The root of 2 times 10 ** 60: near enough to tell apart any two lengths that a text can make.
ROOT = math.isqrt(2 * 10 ** 120)


def size(length):
    """Of two lengths the greater has the greater size."""
    return length[0] * 10 ** 60 + length[1] * ROOT


def angle(one, two):
    product = sum(a * b for a, b in zip(one, two))
    size = math.sqrt(sum(a * a for a in one) * sum(b * b for b in two))
    return round(math.degrees(math.acos(max(-1, min(1, product / size)))))


class SlowSystem:
    """Tells of each line all the kinds of fault that it has, each for itself."""

    def __init__(self):
        self.places, self.named, self.valves, self.ends, self.pipes = [], {}, {}, {}, []
        self.radius, self.stand, self.pipes_of_route = 50, None, 0

    def leaving(self, joint):
        there = []
        for begin, finish, steps, radius, number in self.pipes:
            if begin == joint:
                there.append((steps, radius))
            if finish == joint:
                there.append((tuple(-step for step in steps), radius))
        return there

    def wrong_at(self, joint, steps, radius):
        there = self.leaving(joint)
        angles = [angle(steps, other) for other, thick in there]
        wrong = len(there) + 1 > 4 or any(degrees not in (90, 135, 180) for degrees in angles)
        if joint in self.valves:
            wrong = wrong or len(there) + 1 != 2 or angles != [180]
        if len(there) == 1 and there[0][1] != radius:
            wrong = wrong or angles != [180]
        return wrong

    def kinds(self, line):
        if FORM.fullmatch(line) is None:
            return [1]
        words = line.split(" ")
        verb, kinds = words[0], []
        numbers = [int(word) for word in words[1:] if verb in ("size", "from", "go") and re.fullmatch(INT, word)]
        if verb == "from":
            numbers = [int(word) for word in words[2:]]
        least, most = {"size": (1, 2000), "go": (1, 100000)}.get(verb, (-100000, 100000))
        if any(number < least or number > most for number in numbers):
            kinds.append(2)
        if verb in ("from", "node", "valve") and (words[1] in self.named or words[1] in self.valves.values()):
            kinds.append(3)
        if verb in ("at", "to") and words[1] not in self.named:
            kinds.append(3)
        kinds += self.kinds_of_route(verb, words) + self.kinds_of_size(verb)
        return kinds

    def kinds_of_route(self, verb, words):
        kinds, under_way = [], self.stand is not None
        taken = self.stand in self.valves or self.stand in self.named.values()
        if verb in ("from", "at") and under_way or verb in ("go", "node", "valve", "to", "end") and not under_way:
            kinds.append(4)
        if under_way and verb in ("node", "valve", "to", "end") and taken:
            kinds.append(4)
        if under_way and verb in ("valve", "to", "end") and self.pipes_of_route == 0:
            kinds.append(4)
        if verb == "go" and under_way and self.wrong_at(self.stand, STEPS[words[1]], self.radius):
            kinds.append(5)
        if verb == "to" and under_way and words[1] in self.named and self.pipes_of_route > 0:
            last, joint = self.pipes[-1], self.named[words[1]]
            if self.wrong_at(joint, tuple(-step for step in last[2]), last[3]):
                kinds.append(5)
            if self.places[joint] != self.places[self.stand]:
                kinds.append(6)
        return kinds

    def kinds_of_size(self, verb):
        if verb in ("from", "go") and len(self.places) == 1024 or verb == "go" and len(self.pipes) == 1024:
            return [8]
        return []

    def take(self, line):
        words = line.split(" ")
        verb = words[0]
        if verb == "size":
            self.radius = int(words[1])
        if verb == "from":
            self.stand, self.pipes_of_route = len(self.places), 0
            self.places.append([2000 * int(word) for word in words[2:]] + [0, 0, 0])
        if verb in ("from", "node"):
            self.named[words[1]] = self.stand
        if verb == "at":
            self.stand, self.pipes_of_route = self.named[words[1]], 0
        if verb == "valve":
            self.valves[self.stand] = words[1]
        if verb == "go":
            self.go(STEPS[words[1]], int(words[2]))
        if verb == "to":
            begin, finish, steps, radius, number = self.pipes.pop()
            self.pipes.append((begin, self.named[words[1]], steps, radius, number))
            self.places.pop()
        if verb == "end":
            self.ends[self.stand] = words[1]
        if verb in ("to", "end"):
            self.stand = None

    def go(self, steps, number):
        place = list(self.places[self.stand])
        slant = sum(abs(step) for step in steps) == 2
        for axis, step in enumerate(steps):
            place[axis + 3 * slant] += step * number * (1000 if slant else 2000)
        self.pipes.append((self.stand, len(self.places), steps, self.radius, number))
        self.stand = len(self.places)
        self.places.append(place)
        self.pipes_of_route += 1

    def come_to(self, shut):
        came = {k for k, pipe in enumerate(self.pipes) if "source" in (self.ends.get(pipe[0]), self.ends.get(pipe[1]))}
        more = True
        while more:
            wet = {joint for k in came for joint in self.pipes[k][:2]} - set(shut)
            more = {k for k, pipe in enumerate(self.pipes) if wet & set(pipe[:2])} - came
            came |= more
        return sorted(came)

    def isolate(self, pipe):
        if pipe >= len(self.pipes):
            return [-4]
        if len(self.valves) > 12:
            return [-2]
        for size in range(len(self.valves) + 1):
            for row in itertools.combinations(sorted(self.valves), size):
                if pipe not in self.come_to(row):
                    return [0, *row]
        return [-3]

    def height(self, joint):
        return (self.places[joint][2], self.places[joint][5])

    def is_outlet(self, joint):
        return self.ends.get(joint) in ("drain", "open")

    def neighbours(self, joint):
        return [pipe[1 - side] for pipe in self.pipes for side in (0, 1) if pipe[side] == joint]

    def ways_off(self, joint, shut):
        """All ways to outlets that come to no joint twice and to none that is shut: the joints of each."""
        ways, begun = [], [[joint]]
        near = [self.neighbours(other) for other in range(len(self.places))]
        while begun:
            way = begun.pop()
            if way[-1] in shut:
                continue
            if self.is_outlet(way[-1]):
                ways.append(way)
            begun += [way + [other] for other in near[way[-1]] if other not in way]
        return ways

    def level(self, joint, shut):
        greatest = [max([self.height(other) for other in way], key=size) for way in self.ways_off(joint, shut)]
        return min(greatest, key=size, default=None)

    def wet(self, pipe, levels):
        begin, finish, steps, radius, number = self.pipes[pipe]
        known = [levels[joint] for joint in (begin, finish) if levels[joint] is not None]
        if not known:
            return (2000 * number, 0)
        top = min(known, key=size)
        low, high = sorted([self.height(begin), self.height(finish)], key=size)
        if steps[2] == 0:
            return (2000 * number, 0) if size(low) < size(top) else (0, 0)
        top = sorted([low, top, high], key=size)[1]
        p, q = top[0] - low[0], top[1] - low[1]
        return (p, q) if steps[:2] == (0, 0) else (2 * q, p)

    def left(self, levels):
        p = q = 0
        for k, pipe in enumerate(self.pipes):
            p += self.wet(k, levels)[0] * pipe[3] ** 2
            q += self.wet(k, levels)[1] * pipe[3] ** 2
        return (p, q)

    def runs_off(self, pipe, height, shut):
        """Whether a way off that never goes above that height leads from the place of the pipe at that height."""
        came, found = set(), list(self.pipes[pipe][:2])
        while found:
            joint = found.pop()
            if joint not in came and joint not in shut and size(self.height(joint)) <= size(height):
                came.add(joint)
                found += self.neighbours(joint)
        return any(self.is_outlet(joint) for joint in came)


def slow_read(text):
    """The answer to read, and the system that is read."""
    system = SlowSystem()
    rows = text.split("\n")
    for number, row in enumerate(rows[:-1]):
        kinds = system.kinds(row)
        if kinds:
            return [-100, min(kinds), number], system
        system.take(row)
    if rows[-1] != "":
        return [-100, 1, len(rows) - 1], system
    if system.stand is not None:
        return [-100, 9, len(rows) - 1], system
    return [0, len(system.places), len(system.pipes), len(system.valves), len(system.ends)], system


def drawn_line(draw, system, common):
    names = ["a", "b", "c", "d", "e", "f", "g", "h", "i", "j", "k", "l", "m", "n"]
    under_way = system.stand is not None
    verbs = ["go"] * 8 + ["node"] * 3 + ["valve", "to", "end"] if under_way else ["from", "at", "at", "at"]
    if draw.random() < 0.05:
        verbs = ["size", "from", "at", "go", "node", "valve", "to", "end"]
    verb = draw.choice(verbs)
    if verb == "size":
        return f"size {draw.choice([50, 50, 60, 0, 2001])}"
    if verb == "from":
        x, y, z = draw.randrange(-1, 2), draw.randrange(-1, 2), draw.choice([0, 0, 0, 100001])
        return f"from {draw.choice(names)} {x} {y} {z}"
    if verb == "go":
        return f"go {draw.choice(list(STEPS) + common * 20)} {draw.choice([1, 1, 1, 1, 1, 1, 2, 0])}"
    if verb == "end":
        return f"end {draw.choice(['open', 'cap', 'drain', 'source', 'source', 'x'])}"
    return f"{verb} {draw.choice(names)}"


def homes(system):
    """The lines that end the route at a joint which has a name and stands just there."""
    if system.stand is None:
        return []
    there = [name for name, joint in system.named.items() if system.places[joint] == system.places[system.stand]]
    return [f"to {name}" for name in there if not system.kinds(f"to {name}")]


def closing_lines(draw, system):
    rows = []
    while system.stand is not None:
        choices = [f"go {word} 1" for word in STEPS] + ["end source", "end open"] * 9 + homes(system) * 90
        row = draw.choice([row for row in choices if not system.kinds(row)] or ["size 9"])
        system.take(row)
        rows.append(row)
        if row == "size 9":
            break
    return rows


def drawn_text(draw, common=("e", "w", "n", "s"), wrongs=0.5):
    """Lines without a fault; of the wrong part of all texts the last one or two may have one."""
    system, rows = SlowSystem(), []
    wrong = draw.random() < wrongs
    for number in range(draw.randrange(2, 60)):
        row = draw.choice(homes(system) or [drawn_line(draw, system, list(common))])
        while system.kinds(row) and not (wrong and number > 5 and draw.random() < 0.01):
            row = drawn_line(draw, system, list(common))
        rows.append(row)
        if system.kinds(row):
            return "".join(row + "\n" for row in rows)
        system.take(row)
    if not wrong:
        rows += closing_lines(draw, system)
    return "".join(row + "\n" for row in rows)[:None if not wrong or draw.random() < 0.8 else -1]


class DrawnTexts(unittest.TestCase):
    def test_read_reach_off_isolate(self):
        draw = random.Random(1)
        seen = {}
        for number in range(2000):
            text = drawn_text(draw)
            want, system = slow_read(text)
            self.assertEqual(answered(read(text))[0], want, text)
            seen[tuple(want[:2]) if want[0] else 0] = True
            if want[0] == 0 and len(system.valves) <= 6:
                self.compare(text, system, draw)
        self.assertEqual(set(seen), {0, (-100, 1), (-100, 2), (-100, 3), (-100, 4), (-100, 5), (-100, 6), (-100, 9)})

    def compare(self, text, system, draw):
        shut = sorted(joint for joint in system.valves if draw.random() < 0.5)
        pipe = draw.randrange(len(system.pipes) + 1)
        got = answered(read(text), reach(*shut), isolate(pipe), *[off(joint) for joint in range(len(system.places))])
        self.assertEqual(got[1], [0] + system.come_to(shut), text)
        self.assertEqual(got[2], system.isolate(pipe), text)
        for joint, answer in enumerate(got[3:]):
            want = [-1]
            if joint in system.valves:
                want = [0] + sorted(set(system.come_to([])) - set(system.come_to([joint])))
            self.assertEqual(answer, want, text)


def fewest(areas, sources, valves, target):
    """isolate on areas alone, by trying all rows in their order."""
    for size in range(len(valves) + 1):
        for row in itertools.combinations(range(len(valves)), size):
            came, more = set(sources), True
            while more:
                more = {area for i, pair in enumerate(valves) if i not in row and came & set(pair) for area in pair} - came
                came |= more
            if target not in came:
                return row
    return None


class DrawnNetworks(unittest.TestCase):
    def test_isolate(self):
        draw = random.Random(2)
        for number in range(300):
            areas = draw.randrange(2, 8)
            sources = draw.sample(range(areas), draw.choice([1, 1, 1, 2]))
            valves = [tuple(draw.sample(range(areas), 2)) for i in range(draw.randrange(13))]
            calls = [isolate(pipe_of(area, valves)) for area in range(areas)]
            got = answered(read(network(areas, sources, valves)), *calls)[1:]
            for area in range(areas):
                row = fewest(areas, sources, valves, area)
                want = [-3] if row is None else [0] + [joint_of(i, areas, valves) for i in row]
                self.assertEqual(got[area], want, (areas, sources, valves, area))

    def test_the_valves_told_do_it_and_more_shut_is_no_more_come_to(self):
        draw = random.Random(3)
        for number in range(100):
            areas = draw.randrange(2, 8)
            valves = [tuple(draw.sample(range(areas), 2)) for i in range(draw.randrange(1, 13))]
            text, pipe = network(areas, [0], valves), pipe_of(draw.randrange(1, areas), valves)
            row = answered(read(text), isolate(pipe))[1][1:]
            less = sorted(joint_of(i, areas, valves) for i in range(len(valves)) if draw.random() < 0.3)
            with_row, with_less, with_both = answered(read(text), reach(*row), reach(*less),
                                                      reach(*sorted({*row, *less})))[1:]
            self.assertNotIn(pipe, with_row[1:])
            self.assertLessEqual(set(with_both[1:]), set(with_row[1:]) & set(with_less[1:]))


class Lattice:
    """Draws the text of a lattice of pipes, four ways at each joint at most, with valves, and with ends beside it."""

    def __init__(self, draw):
        self.draw, self.system, self.rows, self.valves = draw, SlowSystem(), [], 0
        self.wide, self.high = draw.choice([(2, 2), (3, 2), (2, 3), (3, 3), (4, 2)])
        self.across, self.along = draw.choice([("e", "u"), ("e", "d"), ("eu", "ed"), ("eu", "wu"), ("n", "u"),
                                               ("nd", "nu"), ("e", "nu"), ("u", "ne"), ("w", "sd")])
        self.columns = [draw.randrange(1, 4) for k in range(self.wide)]
        self.lanes = [draw.randrange(1, 4) for k in range(self.high)]

    def add(self, *rows):
        for row in rows:
            if self.system.kinds(row):
                raise AssertionError((row, self.rows))
            self.system.take(row)
            self.rows.append(row)

    def lead(self, word, number, last):
        """A pipe, or two with a valve between them, and the line behind them."""
        before = self.draw.randrange(number + 1)
        if 0 < before < number:
            self.add(f"go {word} {before}")
            if self.draw.random() < 0.8:
                self.add(f"valve v{self.valves}")
                self.valves += 1
            number -= before
        self.add(f"go {word} {number}", last)

    def text(self):
        self.add(f"size {self.draw.randrange(1, 9)}", f"from k0x0 0 0 {self.draw.randrange(-3, 4)}")
        for j in range(self.high):
            if j > 0:
                self.add(f"at k0x{j - 1}")
                self.lead(self.along, self.lanes[j], f"node k0x{j}")
            for i in range(1, self.wide):
                self.lead(self.across, self.columns[i], f"node k{i}x{j}")
            self.add(f"go {self.across} 1", f"end {self.draw.choice(['cap', 'cap', 'open', 'drain', 'source'])}")
        for j in range(1, self.high):
            for i in range(1, self.wide):
                if self.draw.random() < 0.8:
                    self.add(f"at k{i}x{j - 1}")
                    self.lead(self.along, self.lanes[j], f"to k{i}x{j}")
        for k in range(self.draw.randrange(4)):
            self.branch()
        return "".join(row + "\n" for row in self.rows)

    def branch(self):
        self.add(f"size {self.draw.randrange(1, 9)}",
                 f"at k{self.draw.randrange(self.wide)}x{self.draw.randrange(self.high)}")
        for k in range(self.draw.randrange(1, 4)):
            choices = [f"go {word} {self.draw.randrange(1, 4)}" for word in STEPS]
            choices = [row for row in choices if not self.system.kinds(row)]
            if choices:
                self.add(self.draw.choice(choices))
        if self.system.kinds("end cap"):
            # No pipe may leave here: as if the route had not begun.
            self.rows.pop()
            self.system.stand = None
        else:
            self.add(f"end {self.draw.choice(['cap', 'open', 'drain', 'source'])}")


def drawn_systems(seed, texts, lattices):
    """Texts that have no fault, and their systems."""
    draw, drawn = random.Random(seed), []
    while len(drawn) < texts:
        common = draw.choice([("e", "w", "u", "d"), ("eu", "ed", "wu", "wd"), tuple(STEPS)])
        drawn.append(drawn_text(draw, common, 0))
    drawn += [Lattice(draw).text() for k in range(lattices)]
    systems = []
    for text in drawn:
        told, system = slow_read(text)
        if told[0] == 0:
            systems.append((text, system))
    return systems


class DrawnLevels(unittest.TestCase):
    def test_level_wet_left(self):
        draw = random.Random(4)
        seen = {}
        for text, system in drawn_systems(5, 600, 400):
            shut = sorted(joint for joint in system.valves if draw.random() < 0.4)
            levels = [system.level(joint, shut) for joint in range(len(system.places))]
            calls = [level(joint, *shut) for joint in range(len(levels))]
            calls += [wet(pipe, *shut) for pipe in range(len(system.pipes))]
            want = [[-3] if height is None else [0, *height] for height in levels]
            want += [[0, *system.wet(pipe, levels)] for pipe in range(len(system.pipes))]
            got = answered(read(text), *calls, left(*shut))[1:]
            self.assertEqual(got, want + [[0, *system.left(levels)]], (text, shut))
            self.note(system, levels, seen)
        kinds = [(slope, part) for slope in ("level", "upright", "aslant") for part in ("none", "all", "dry")]
        self.assertEqual(sorted(seen), sorted(kinds + [("upright", "part"), ("aslant", "part")]))
        self.assertGreater(min(seen.values()), 20, seen)

    def note(self, system, levels, seen):
        """How often there were pipes of each slope, and of how much of each was wet."""
        for k, (begin, finish, steps, radius, number) in enumerate(system.pipes):
            slope = "level" if steps[2] == 0 else "upright" if steps[:2] == (0, 0) else "aslant"
            length = system.wet(k, levels)
            part = {(0, 0): "dry", (2000 * number, 0): "all"}.get(length, "part")
            if levels[begin] is None and levels[finish] is None:
                part = "none"
            seen[slope, part] = seen.get((slope, part), 0) + 1


class DrawnPromises(unittest.TestCase):
    def test_a_place_is_wet_just_if_no_way_off_stays_below_it(self):
        draw = random.Random(6)
        for text, system in drawn_systems(7, 300, 300):
            shut = sorted(joint for joint in system.valves if draw.random() < 0.4)
            got = answered(read(text), *[wet(pipe, *shut) for pipe in range(len(system.pipes))])[1:]
            for pipe, (zero, p, q) in enumerate(got):
                self.compare_places(system, pipe, (p, q), shut, text)

    def compare_places(self, system, pipe, length, shut, text):
        begin, finish, steps, radius, number = system.pipes[pipe]
        low, high = sorted([system.height(begin), system.height(finish)], key=size)
        if steps[2] == 0:
            self.assertEqual(length, (0, 0) if system.runs_off(pipe, low, shut) else (2000 * number, 0), (text, shut))
            return
        p, q = length
        rise = (p, q) if steps[:2] == (0, 0) else (q, Fraction(p, 2))
        surface = (low[0] + rise[0], low[1] + rise[1])
        self.assertLessEqual(size(low), size(surface), (text, shut))
        self.assertLessEqual(size(surface), size(high), (text, shut))
        thin = Fraction(1, 10 ** 30)
        places = [(surface[0] + step, surface[1]) for step in (-thin, 0, thin)]
        places += [(low[0] + (high[0] - low[0]) * Fraction(k, 7), low[1] + (high[1] - low[1]) * Fraction(k, 7))
                   for k in range(8)]
        for place in places:
            # At the upper end itself no length tells whether it is wet.
            if size(low) <= size(place) < size(high):
                is_wet = size(place) < size(surface)
                self.assertEqual(is_wet, not system.runs_off(pipe, place, shut), (text, shut, pipe, place))

    def test_more_shut_no_pipe_more_is_come_to_and_none_is_less_wet(self):
        draw = random.Random(8)
        for text, system in drawn_systems(9, 200, 400):
            less = sorted(joint for joint in system.valves if draw.random() < 0.3)
            more = sorted(joint for joint in system.valves if joint in less or draw.random() < 0.5)
            rows = [[reach(*shut), left(*shut)] + [wet(pipe, *shut) for pipe in range(len(system.pipes))]
                    for shut in (less, more)]
            with_less, with_more = [answered(read(text), *calls)[1:] for calls in rows]
            self.assertLessEqual(set(with_more[0][1:]), set(with_less[0][1:]))
            for one, other in zip(with_less[1:], with_more[1:]):
                self.assertLessEqual(size(one[1:]), size(other[1:]), (text, less, more))


if __name__ == "__main__":
    unittest.main()
