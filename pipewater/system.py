"""A system of joints and pipes, both numbered from 0 as they come."""

from pipewater.directions import gone, opposite, turn

MOST_PIPES_AT_A_JOINT = 4
ALLOWED_TURNS = (90, 135, 180)
STRAIGHT = 180
OUTLETS = ("drain", "open")


class Joint:
    def __init__(self, place):
        self.place = place
        self.named = False
        self.valve = False
        self.ending = ""
        # The pipes here, and in the same order the directions in which they leave.
        self.pipes = []
        self.leaving = []

    def height(self):
        return self.place[2]


class Pipe:
    def __init__(self, begin, finish, direction, millimetres, radius):
        self.begin = begin
        self.finish = finish
        self.direction = direction
        self.millimetres = millimetres
        self.radius = radius


class System:
    def __init__(self):
        self.joints = []
        self.pipes = []

    def add_joint(self, place):
        self.joints.append(Joint(place))
        return len(self.joints) - 1

    def add_pipe(self, begin, direction, millimetres, radius):
        """A pipe to a new joint, whose number is given back."""
        finish = self.add_joint(gone(self.joints[begin].place, direction, millimetres))
        self.pipes.append(Pipe(begin, finish, direction, millimetres, radius))
        self.lay(begin, len(self.pipes) - 1, direction)
        self.lay(finish, len(self.pipes) - 1, opposite(direction))
        return finish

    def lay(self, joint, pipe, direction):
        self.joints[joint].pipes.append(pipe)
        self.joints[joint].leaving.append(direction)

    def lead_last_pipe_to(self, joint):
        """The last pipe leads to that joint; the one made last, where it led, is none any more."""
        last = self.pipes[-1]
        self.joints.pop()
        last.finish = joint
        self.lay(joint, len(self.pipes) - 1, opposite(last.direction))

    def may_leave(self, number, direction, radius):
        """Whether one more pipe of that radius may leave the joint in that direction."""
        joint = self.joints[number]
        if len(joint.pipes) >= MOST_PIPES_AT_A_JOINT:
            return False
        turns = [turn(other, direction) for other in joint.leaving]
        if not all([angle in ALLOWED_TURNS for angle in turns]):
            return False
        if len(joint.pipes) != 1:
            return True
        if joint.valve or self.pipes[joint.pipes[0]].radius != radius:
            return turns[0] == STRAIGHT
        return True

    def valves(self):
        return [number for number, joint in enumerate(self.joints) if joint.valve]

    def ends(self):
        return [number for number, joint in enumerate(self.joints) if joint.ending != ""]

    def sources(self):
        return [number for number, joint in enumerate(self.joints) if joint.ending == "source"]

    def outlets(self):
        return [number for number, joint in enumerate(self.joints) if joint.ending in OUTLETS]

    def neighbours(self, number):
        """The joints that one pipe leads to from the joint."""
        there = [self.pipes[pipe] for pipe in self.joints[number].pipes]
        return [pipe.finish if pipe.begin == number else pipe.begin for pipe in there]

    def has_valve(self, number):
        return number < len(self.joints) and self.joints[number].valve
