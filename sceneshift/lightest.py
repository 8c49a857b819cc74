"""The lightest carryings for all scenes, searched over all standings of a house."""

from sceneshift.carrying import pieces_on, steps_from


def steps_by_standing(heavy, left_room, right_room, start):
    """Give back, for each standing that can be reached from start, the steps from it."""
    steps = {}
    waiting = [start]
    while len(waiting) > 0:
        standing = waiting.pop()
        if standing not in steps:
            steps[standing] = steps_from(heavy, left_room, right_room, standing)
            for step in steps[standing]:
                waiting.append(step.after)
    return steps


def lowered(best, standing, steps):
    """Tell the lightest weight from a standing by one of its steps or as best has it; None if there's none yet."""
    lightest = best.get(standing)
    for step in steps:
        if step.after in best:
            weight = step.weight + best[step.after]
            if lightest is None or weight < lightest:
                lightest = weight
    return lightest


def weights_to(steps, ends):
    """Give back the lightest weight from each standing to one of ends and from there on, which ends tells."""
    best = {}
    for standing in ends:
        best[standing] = ends[standing]
    changed = True
    while changed:
        changed = False
        for standing in steps:
            weight = lowered(best, standing, steps[standing])
            if weight != best.get(standing):
                best[standing] = weight
                changed = True
    return best


class Plan:
    """The lightest weights for the scenes from every standing that can be reached from start."""

    def __init__(self, heavy, left_room, right_room, start, scenes):
        self.many = len(heavy)
        self.start = start
        self.scenes = scenes
        self.steps = steps_by_standing(heavy, left_room, right_room, start)
        self.weights = self.weights_by_scene()

    def weights_by_scene(self):
        """List, for each scene and behind the last one, the lightest weights of all that is still to come."""
        later = {}
        for standing in self.steps:
            later[standing] = 0
        weights = [later]
        # Backwards, as what a scene should leave behind depends on those to come.
        for scene in reversed(self.scenes):
            ends = {}
            for standing in later:
                if pieces_on(self.many, standing) == scene:
                    ends[standing] = later[standing]
            later = weights_to(self.steps, ends)
            weights.append(later)
        weights.reverse()
        return weights

    def least(self):
        """Give back how heavy the lightest carryings for all scenes are, None if there are none."""
        return self.weights[0].get(self.start)

    def is_over(self, number, standing):
        """Tell whether a scene stands and all to come can be done as lightly from there."""
        if pieces_on(self.many, standing) != self.scenes[number]:
            return False
        return self.weights[number + 1].get(standing) == self.weights[number][standing]

    def first_step(self, number, standing):
        """Give back the first step in a scene's carryings with which all can still be done as lightly."""
        best = self.weights[number]
        for step in self.steps[standing]:
            if step.after in best and step.weight + best[step.after] == best[standing]:
                return step
        return None

    def rows(self):
        """List, for each scene, the numbers of its carryings, of the first lightest ones; there must be some."""
        rows = []
        standing = self.start
        for number in range(len(self.scenes)):
            row = []
            while not self.is_over(number, standing):
                step = self.first_step(number, standing)
                row.extend(step.carrying)
                standing = step.after
            rows.append(row)
        return rows
