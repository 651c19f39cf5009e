"""Up to which height water stays at a joint when all that can has run off."""

from pipewater.lengths import is_less
from pipewater.ways import dict_of


class Heights:
    """The heights of a system's joints, rising, and of each joint the rank of its own among them."""

    def __init__(self, system):
        self.rising = []
        for joint in system.joints:
            self.rising.insert(self.rank_of(joint.height()), joint.height())
        # Only now: one height, one rank, however many joints have it.
        self.ranks = [self.rank_of(joint.height()) for joint in system.joints]

    def rank_of(self, height):
        """How many of the heights so far are less."""
        least = 0
        most = len(self.rising)
        while least < most:
            middle = (least + most) // 2
            if is_less(self.rising[middle], height):
                least = middle + 1
            else:
                most = middle
        return least


def joint_levels(system, heights, shut):
    """Each joint's level with these valves shut, None where it has none."""
    ranks = level_ranks(system, heights, dict_of(shut))
    return [None if rank is None else heights.rising[rank] for rank in ranks]


def level_ranks(system, heights, barred):
    """Each joint's level as the rank of a height, found from the outlets backwards, the lowest levels first."""
    levels = [None] * len(system.joints)
    # By rank, the joints from which a way leads off whose greatest height is of that rank.
    waiting = [[] for height in heights.rising]
    for outlet in system.outlets():
        waiting[heights.ranks[outlet]].append(outlet)
    for rank in range(len(heights.rising)):
        done = 0
        while done < len(waiting[rank]):
            joint = waiting[rank][done]
            done += 1
            # Ranks come rising: where a joint waits several times, the first time is its level.
            if levels[joint] is None:
                levels[joint] = rank
                for other in neighbours_without(system, joint, barred):
                    waiting[max(rank, heights.ranks[other])].append(other)
    return levels


def neighbours_without(system, joint, barred):
    return [other for other in system.neighbours(joint) if other not in barred]
