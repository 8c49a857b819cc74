"""The interface: the calls on one house, told in one list of whole numbers."""

from sceneshift.carrying import OFF_LEFT, OFF_RIGHT
from sceneshift.house import House

BEGINS = 0
SCENE = 1
DROP = 2
LEAST = 3
WAYS = 4
CHECK = 5


class UnknownCall(ValueError):
    """A call's number that tells no call."""


class Reader:
    """Takes the numbers of a list one behind another, and leaves the list as it is."""

    def __init__(self, numbers):
        self.numbers = numbers
        self.place = 0

    def has_more(self):
        """Tell whether a number is left."""
        return self.place < len(self.numbers)

    def take_number(self):
        """Give back the next number."""
        number = self.numbers[self.place]
        self.place = self.place + 1
        return number

    def take_row(self):
        """Give back the next row, as a list of its own, behind how many numbers it has."""
        many = self.take_number()
        start = self.place
        self.place = start + many
        return self.numbers[start:start + many]


def answer_begins(house, reader):
    """Read what begins is told, and do it."""
    left_room = reader.take_number()
    right_room = reader.take_number()
    heavy = reader.take_row()
    left = reader.take_row()
    right = reader.take_row()
    return house.begins(heavy, left_room, right_room, left, right)


def take_carrying(reader):
    """Read one carrying; only those that go off tell their piece."""
    kind = reader.take_number()
    if kind == OFF_LEFT or kind == OFF_RIGHT:
        return (kind, reader.take_number())
    return (kind,)


def answer_check(house, reader):
    """Read what check is told, and do it."""
    many = reader.take_number()
    row = Reader(reader.take_row())
    carryings = []
    while len(carryings) < many:
        carryings.append(take_carrying(row))
    return house.check(carryings)


def with_rows(answer):
    """Give back an answer's number, then each of its rows behind how many numbers it has."""
    numbers = [answer[0]]
    for row in answer[1]:
        numbers.append(len(row))
        numbers.extend(row)
    return numbers


def answer_next(house, reader):
    """Do the next call; give back the numbers that it answers."""
    call = reader.take_number()
    if call == BEGINS:
        return [answer_begins(house, reader)]
    if call == SCENE:
        return [house.scene(reader.take_row())]
    if call == DROP:
        return [house.drop()]
    if call == LEAST:
        return [house.least()]
    if call == WAYS:
        return with_rows(house.ways())
    if call == CHECK:
        return with_rows(answer_check(house, reader))
    raise UnknownCall(f"there is no call {call}")


def answers(calls):
    """Do the calls on a new house; give back each one's numbers behind how many they are."""
    reader = Reader(calls)
    house = House()
    given = []
    while reader.has_more():
        answer = answer_next(house, reader)
        given.append(len(answer))
        given.extend(answer)
    return given
