"""Which pipes water comes to."""

# The area of the pipes that are come to whatever is shut.
WATERED = 0


def flood(system, first, barred, mark, marks):
    """Marks the pipes of first, and all that ways lead to from them which go through no joint of barred."""
    for pipe in first:
        marks[pipe] = mark
    found = list(first)
    done = 0
    while done < len(found):
        pipe = system.pipes[found[done]]
        done += 1
        for joint in (pipe.begin, pipe.finish):
            if joint not in barred:
                fresh = [other for other in system.joints[joint].pipes if marks[other] is None]
                for other in fresh:
                    marks[other] = mark
                found.extend(fresh)


def source_pipes(system):
    # A joint with an end has one pipe.
    return [system.joints[joint].pipes[0] for joint in system.sources()]


def dict_of(joints):
    return dict([(joint, True) for joint in joints])


def come_to(system, shut):
    """The pipes that are come to with these valves shut, rising."""
    marks = [None] * len(system.pipes)
    flood(system, source_pipes(system), dict_of(shut), WATERED, marks)
    return [pipe for pipe, mark in enumerate(marks) if mark is not None]


def areas(system):
    """Each pipe's area: two pipes are of one area if a way without a valve leads from one to the other.

    All areas with a source are one, WATERED: for what comes from them it is the same which of them it was.
    """
    marks = [None] * len(system.pipes)
    barred = dict_of(system.valves())
    flood(system, source_pipes(system), barred, WATERED, marks)
    for pipe in range(len(system.pipes)):
        if marks[pipe] is None:
            flood(system, [pipe], barred, pipe + 1, marks)
    return marks
