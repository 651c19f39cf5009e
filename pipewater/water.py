"""The calls on one object, and how they and their answers are laid in lists of whole numbers."""

from pipewater.cuts import fewest_valves
from pipewater.errors import Fault, NoLevel, NoSuchJoint, NoSuchPipe, NotACall, NotValves, Refusal, TooMany
from pipewater.levels import Heights, joint_levels
from pipewater.reader import read_text
from pipewater.system import System
from pipewater.ways import come_to
from pipewater.wetness import length_left, wet_length

MOST_BYTES = 65536

READ = 1
REACH = 2
OFF = 3
ISOLATE = 4
LEVEL = 5
WET = 6
LEFT = 7

ANSWERED = 0
FAULTY = -100


class Water:
    """Holds a system, at first the empty text's. Each call gives back a list of whole numbers, or is refused."""

    def __init__(self):
        self.hold(System())

    def hold(self, system):
        self.system = system
        # Heights are compared once for each system, so that a call needs only their ranks.
        self.heights = Heights(system)

    def read(self, numbers):
        if len(numbers) > MOST_BYTES:
            raise TooMany()
        system = read_text(numbers)
        self.hold(system)
        return [len(system.joints), len(system.pipes), len(system.valves()), len(system.ends())]

    def reach(self, shut):
        self.need_valves(shut)
        return come_to(self.system, shut)

    def off(self, joint):
        self.need_valves([joint])
        still = dict([(pipe, True) for pipe in come_to(self.system, [joint])])
        return [pipe for pipe in come_to(self.system, []) if pipe not in still]

    def isolate(self, pipe):
        self.need_pipe(pipe)
        return fewest_valves(self.system, pipe)

    def level(self, joint, shut):
        self.need_valves(shut)
        if joint >= len(self.system.joints):
            raise NoSuchJoint()
        found = joint_levels(self.system, self.heights, shut)[joint]
        if found is None:
            raise NoLevel()
        return list(found)

    def wet(self, pipe, shut):
        self.need_valves(shut)
        self.need_pipe(pipe)
        levels = joint_levels(self.system, self.heights, shut)
        return list(wet_length(self.system, self.system.pipes[pipe], levels))

    def left(self, shut):
        self.need_valves(shut)
        levels = joint_levels(self.system, self.heights, shut)
        return list(length_left(self.system, levels))

    def need_pipe(self, pipe):
        if pipe >= len(self.system.pipes):
            raise NoSuchPipe()

    def need_valves(self, shut):
        rising = all([shut[k] < shut[k + 1] for k in range(len(shut) - 1)])
        if not rising or not all([self.system.has_valve(joint) for joint in shut]):
            raise NotValves()


class CallList:
    """Walks the numbers of a list of calls, and leaves the list as it is."""

    def __init__(self, numbers):
        self.numbers = numbers
        self.done = 0

    def has_more(self):
        return self.done < len(self.numbers)

    def take_number(self):
        self.done += 1
        return self.numbers[self.done - 1]

    def take_row(self):
        size = self.take_number()
        self.done += size
        return self.numbers[self.done - size:self.done]


def make_call(water, calls):
    number = calls.take_number()
    if number == READ:
        return water.read(calls.take_row())
    if number == REACH:
        return water.reach(calls.take_row())
    if number == OFF:
        return water.off(calls.take_number())
    if number == ISOLATE:
        return water.isolate(calls.take_number())
    if number == LEVEL:
        return water.level(calls.take_number(), calls.take_row())
    if number == WET:
        return water.wet(calls.take_number(), calls.take_row())
    if number == LEFT:
        return water.left(calls.take_row())
    raise NotACall(f"no call has the number {number}")


def answer(water, calls):
    """The numbers that are answered to the next call."""
    try:
        return [ANSWERED] + make_call(water, calls)
    except Refusal as refusal:
        return [-refusal.number]
    except Fault as fault:
        return [FAULTY, fault.kind, fault.line]


def answers(calls):
    """The answers to the calls on one new object, each behind how many numbers it has."""
    water = Water()
    walk = CallList(calls)
    given = []
    while walk.has_more():
        numbers = answer(water, walk)
        given.append(len(numbers))
        given.extend(numbers)
    return given
