"""Carryings: what can be carried from one standing, and how all stands then.

A standing is a tuple of the left wing's row and the right one's, tuples with the nearest piece first; all other
pieces are on. A carrying is a tuple of the numbers that tell it.
"""

OFF_LEFT = 0
OFF_RIGHT = 1
ON_LEFT = 2
ON_RIGHT = 3


class Step:
    """A carrying from some standing: how heavy it is, and the standing behind it."""

    def __init__(self, carrying, weight, after):
        self.carrying = carrying
        self.weight = weight
        self.after = after


def pieces_on(many, standing):
    """List those of many pieces that are on, rising."""
    return [piece for piece in range(many) if piece not in standing[0] and piece not in standing[1]]


def steps_from(heavy, left_room, right_room, standing):
    """List the steps that can be taken from a standing, in the document's order."""
    left = standing[0]
    right = standing[1]
    on = pieces_on(len(heavy), standing)
    steps = []
    if len(left) < left_room:
        for piece in on:
            steps.append(Step((OFF_LEFT, piece), heavy[piece], ((piece,) + left, right)))
    if len(right) < right_room:
        for piece in on:
            steps.append(Step((OFF_RIGHT, piece), heavy[piece], (left, (piece,) + right)))
    if len(left) > 0:
        steps.append(Step((ON_LEFT,), heavy[left[0]], (left[1:], right)))
    if len(right) > 0:
        steps.append(Step((ON_RIGHT,), heavy[right[0]], (left, right[1:])))
    return steps


def step_by(steps, carrying):
    """Give back the step with this carrying, None if there is none."""
    for step in steps:
        if step.carrying == carrying:
            return step
    return None
