"""Walks from carries to carries by columns, each of them told by a pair of integers, for its left and its right."""


def joined_masks(masks):
    """The integer that has all bits of some."""
    total = 0
    for mask in masks:
        total = total | mask
    return total


def start_of_walk(ends, steps):
    """The first carries from which so many columns lead back to them; None if there are none."""
    many = max([max(pair) for pair in ends], default=-1) + 1
    leaving = [[] for _ in range(many)]
    for left, right in ends:
        leaving[left].append(right)
    # Bit by bit the carries to which some many columns lead from each.
    reached = [1 << carries for carries in range(many)]
    for _ in range(steps):
        reached = [joined_masks([reached[right] for right in rights]) for rights in leaving]
    for carries, mask in enumerate(reached):
        if mask >> carries & 1 == 1:
            return carries
    return None


def masks_back(ends, goal, steps):
    """For 0 to so many columns, bit by bit, the carries from which they lead to a goal."""
    masks = [1 << goal]
    for _ in range(steps):
        masks.append(joined_masks([1 << left for left, right in ends if masks[-1] >> right & 1 == 1]))
    return masks


def closed_walk(ends, steps):
    """The numbers of so many columns, each ahead of the next one, the last one of the first; None if there are none."""
    start = start_of_walk(ends, steps)
    if start is None:
        return None
    masks = masks_back(ends, start, steps)
    walk = []
    here = start
    for left_over in range(steps - 1, -1, -1):
        found = [number for number, (left, right) in enumerate(ends)
                 if left == here and masks[left_over] >> right & 1 == 1]
        walk.append(found[0])
        here = ends[found[0]][1]
    return walk
