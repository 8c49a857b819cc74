"""One house: its pieces, its two wings and its scenes."""

from sceneshift.carrying import pieces_on, step_by, steps_from
from sceneshift.lightest import Plan

MOST_PIECES = 4
MOST_HEAVY = 1000
MOST_ROOM = 3
MOST_SCENES = 4


def sizes_fit(heavy, left_room, right_room):
    """Tell whether there may be so many pieces, so heavy, and so much room."""
    if len(heavy) > MOST_PIECES or left_room > MOST_ROOM or right_room > MOST_ROOM:
        return False
    for weight in heavy:
        if weight < 1 or weight > MOST_HEAVY:
            return False
    return True


def wings_fit(many, left_room, right_room, left, right):
    """Tell whether these rows may stand in the wings, of pieces 0 to many - 1."""
    if len(left) > left_room or len(right) > right_room:
        return False
    told = {}
    # Both rows are walked as one: a piece can't stand in the two wings either.
    for piece in left + right:
        if piece >= many or piece in told:
            return False
        told[piece] = True
    return True


def pieces_rise(many, pieces):
    """Tell whether the pieces rise and are all of 0 to many - 1."""
    lowest = 0
    for piece in pieces:
        if piece < lowest or piece >= many:
            return False
        lowest = piece + 1
    return True


def rows_of(many, length):
    """Count the rows of so many different pieces, out of many."""
    count = 1
    for taken in range(length):
        count = count * (many - taken)
    return count


def ways_to_stand(many, left_room, right_room):
    """Count the ways in which many pieces may stand: on, or in either wing's row."""
    total = 0
    for in_left in range(min(many, left_room) + 1):
        for in_right in range(min(many - in_left, right_room) + 1):
            # One row of all that are off, cut behind the left wing's, tells both wings.
            total = total + rows_of(many, in_left + in_right)
    return total


class House:
    """What stands in one house; each call answers a number, below 0 if it's refused.

    ways and check answer a tuple of the number and the rows that come with it.
    """

    def __init__(self):
        self.heavy = []
        self.left_room = 0
        self.right_room = 0
        self.left = []
        self.right = []
        self.scenes = []

    def begins(self, heavy, left_room, right_room, left, right):
        """Set the house up anew; answer in how many ways its pieces may stand."""
        many = len(heavy)
        if not sizes_fit(heavy, left_room, right_room):
            return -1
        if not wings_fit(many, left_room, right_room, left, right):
            return -2
        self.heavy = list(heavy)
        self.left_room = left_room
        self.right_room = right_room
        self.left = list(left)
        self.right = list(right)
        self.scenes = []
        return ways_to_stand(many, left_room, right_room)

    def scene(self, pieces):
        """Add a scene for which just these pieces are on; answer its number."""
        if not pieces_rise(len(self.heavy), pieces):
            return -1
        if len(self.scenes) == MOST_SCENES:
            return -5
        self.scenes.append(list(pieces))
        return len(self.scenes) - 1

    def drop(self):
        """Take the last scene back; answer how many are left."""
        if len(self.scenes) == 0:
            return -4
        self.scenes.pop()
        return len(self.scenes)

    def standing(self):
        """Give back how the pieces stand now."""
        return (tuple(self.left), tuple(self.right))

    def plan(self):
        """Search the lightest carryings for all scenes, from how the pieces stand now."""
        return Plan(self.heavy, self.left_room, self.right_room, self.standing(), self.scenes)

    def least(self):
        """Answer how heavy the lightest carryings for all scenes are."""
        weight = self.plan().least()
        if weight is None:
            return -6
        return weight

    def ways(self):
        """Answer the same, with a row of each scene's carryings, of the first lightest ones."""
        plan = self.plan()
        weight = plan.least()
        if weight is None:
            return (-6, [])
        return (weight, plan.rows())

    def check(self, carryings):
        """Answer 1, with how heavy the carryings are and how all would stand; else 0, with the first that can't be."""
        weight = 0
        standing = self.standing()
        for number, carrying in enumerate(carryings):
            step = step_by(steps_from(self.heavy, self.left_room, self.right_room, standing), carrying)
            if step is None:
                return (0, [[number]])
            weight = weight + step.weight
            standing = step.after
        on = pieces_on(len(self.heavy), standing)
        return (1, [[weight], on, list(standing[0]), list(standing[1])])
