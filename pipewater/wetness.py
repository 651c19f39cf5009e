"""How long pipes are wet when all that can has run off."""

from pipewater.directions import UNITS_ALONG_AN_AXIS, axes
from pipewater.lengths import NO_LENGTH, is_less, minus, plus, times, times_root


def wet_length(system, pipe, levels):
    """How long the pipe is wet, with these levels of the joints."""
    return length_below(system, pipe, pipe_level(pipe, levels))


def length_left(system, levels):
    """The sum over all pipes of how long each is wet times its radius times itself."""
    total = NO_LENGTH
    for pipe in system.pipes:
        total = plus(total, times(wet_length(system, pipe, levels), pipe.radius * pipe.radius))
    return total


def pipe_level(pipe, levels):
    """The lesser of its two ends' levels; None if both have none."""
    one = levels[pipe.begin]
    other = levels[pipe.finish]
    if one is None:
        return other
    if other is None or is_less(one, other):
        return one
    return other


def length_below(system, pipe, level):
    """How long the part of the pipe is that is lower than the level; all of it is if there is no level."""
    whole = (UNITS_ALONG_AN_AXIS * pipe.millimetres, 0)
    if level is None:
        return whole
    lowest = system.joints[lower_end(pipe)].height()
    if not is_less(lowest, level):
        return NO_LENGTH
    if not is_less(level, system.joints[upper_end(pipe)].height()):
        return whole
    return length_of_rise(pipe, minus(level, lowest))


def lower_end(pipe):
    """The joint at its lower end; either if it is level."""
    return pipe.finish if pipe.direction[2] < 0 else pipe.begin


def upper_end(pipe):
    return pipe.begin if pipe.direction[2] < 0 else pipe.finish


def length_of_rise(pipe, rise):
    """How long a pipe that is not level is, over so much of its height."""
    return rise if axes(pipe.direction) == 1 else times_root(rise)
