"""Reads a text into the system that it tells, line by line."""

from pipewater.directions import direction_of, opposite, place_at
from pipewater.errors import Fault
from pipewater.forms import is_line, text_of, within_bounds
from pipewater.system import System

FIRST_RADIUS = 50
MOST_JOINTS = 1024
MOST_PIPES = 1024

NO_FORM = 1
OUT_OF_BOUNDS = 2
WRONG_NAME = 3
NOT_NOW = 4
WRONG_JOINT = 5
WRONG_PLACE = 6
TOO_LARGE = 8
NOT_ENDED = 9


class Reader:
    """What the lines so far have told. Each line's checks go from the least kind of fault to the greatest."""

    def __init__(self):
        self.system = System()
        self.joint_names = {}
        self.valve_names = {}
        self.radius = FIRST_RADIUS
        # The joint where the route stands, None while no route is under way.
        self.stand = None
        self.line = 0

    def need(self, holds, kind):
        if not holds:
            raise Fault(kind, self.line)

    def take_line(self, line):
        words = line.split(" ")
        self.need(is_line(words), NO_FORM)
        self.need(within_bounds(words), OUT_OF_BOUNDS)
        self.take_words(words)
        self.line += 1

    def take_words(self, words):
        if words[0] == "size":
            self.radius = int(words[1])
        elif words[0] == "from":
            self.take_from(words[1], place_at(int(words[2]), int(words[3]), int(words[4])))
        elif words[0] == "at":
            self.take_at(words[1])
        elif words[0] == "go":
            self.take_go(direction_of(words[1]), int(words[2]))
        elif words[0] == "node":
            self.take_node(words[1])
        elif words[0] == "valve":
            self.take_valve(words[1])
        elif words[0] == "to":
            self.take_to(words[1])
        else:
            self.take_end(words[1])

    def take_from(self, name, place):
        self.need_new_name(name)
        self.need(self.stand is None, NOT_NOW)
        self.need(len(self.system.joints) < MOST_JOINTS, TOO_LARGE)
        self.stand = self.system.add_joint(place)
        self.name_joint(name)

    def take_at(self, name):
        self.need(name in self.joint_names, WRONG_NAME)
        self.need(self.stand is None, NOT_NOW)
        self.stand = self.joint_names[name]

    def take_go(self, direction, millimetres):
        self.need(self.stand is not None, NOT_NOW)
        self.need(self.system.may_leave(self.stand, direction, self.radius), WRONG_JOINT)
        self.need(len(self.system.joints) < MOST_JOINTS, TOO_LARGE)
        self.need(len(self.system.pipes) < MOST_PIPES, TOO_LARGE)
        self.stand = self.system.add_pipe(self.stand, direction, millimetres, self.radius)

    def take_node(self, name):
        self.need_new_name(name)
        self.need_bare_joint()
        self.name_joint(name)

    def take_valve(self, name):
        self.need_new_name(name)
        self.need_bare_joint()
        self.valve_names[name] = True
        joint = self.system.joints[self.stand]
        joint.valve = True

    def take_to(self, name):
        self.need(name in self.joint_names, WRONG_NAME)
        self.need_bare_joint()
        joint = self.joint_names[name]
        last = self.system.pipes[-1]
        self.need(self.system.may_leave(joint, opposite(last.direction), last.radius), WRONG_JOINT)
        self.need(self.system.joints[joint].place == self.system.joints[self.stand].place, WRONG_PLACE)
        self.system.lead_last_pipe_to(joint)
        self.stand = None

    def take_end(self, ending):
        self.need_bare_joint()
        joint = self.system.joints[self.stand]
        joint.ending = ending
        self.stand = None

    def need_new_name(self, name):
        self.need(name not in self.joint_names and name not in self.valve_names, WRONG_NAME)

    def need_bare_joint(self):
        """A route stands at a joint without a name or a valve."""
        self.need(self.stand is not None, NOT_NOW)
        # A route without a pipe needs no check of its own: it stands where it began, at a joint with a name.
        joint = self.system.joints[self.stand]
        self.need(not joint.named and not joint.valve, NOT_NOW)

    def name_joint(self, name):
        self.joint_names[name] = self.stand
        joint = self.system.joints[self.stand]
        joint.named = True


def read_text(numbers):
    """The system that the bytes tell; a Fault if they have one."""
    lines = text_of(numbers).split("\n")
    rest = lines.pop()
    reader = Reader()
    for line in lines:
        reader.take_line(line)
    reader.need(rest == "", NO_FORM)
    reader.need(reader.stand is None, NOT_ENDED)
    return reader.system
