"""Tells calls as lists of numbers, and reads the answers back call by call."""

from sceneshift.stage import answers

LARGEST = 4294967295


def row(numbers):
    return [len(numbers)] + list(numbers)


def begins(heavy, left_room=0, right_room=0, left=(), right=()):
    return [0, left_room, right_room] + row(heavy) + row(left) + row(right)


def scene(*pieces):
    return [1] + row(pieces)


def drop():
    return [2]


def least():
    return [3]


def ways():
    return [4]


def check(*carryings):
    """Each carrying a tuple of its numbers."""
    return [5, len(carryings)] + row([number for carrying in carryings for number in carrying])


def line(*calls):
    """The one list that tells these calls."""
    return [number for call in calls for number in call]


def split(given):
    """What is given back, one list a call."""
    lists = []
    place = 0
    while place < len(given):
        end = place + 1 + given[place]
        if end > len(given):
            raise ValueError("the last answer is cut off")
        lists.append(given[place + 1:end])
        place = end
    return lists


def told(*calls):
    """What the last of the calls answers: its number, then the lists that come with it."""
    numbers = split(answers(line(*calls)))[-1]
    return [numbers[0]] + split(numbers[1:])


def ask(*calls):
    """The number that each call answers; none of these calls answers a list with it."""
    lists = split(answers(line(*calls)))
    for answer in lists:
        if len(answer) != 1:
            raise ValueError(f"not one number alone: {answer}")
    return [answer[0] for answer in lists]


def last(*calls):
    """The number that the last of the calls answers."""
    return ask(*calls)[-1]
