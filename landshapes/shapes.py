"""The calls on a file of shapes, and what they answer."""

from landshapes.reading import NotAFile, read_file

CALL_BEGIN = 0
CALL_OPEN = 1
CALL_COUNT = 2
CALL_ABOUT = 3

# How many numbers stand behind each call's own. Behind CALL_OPEN it is one, which tells how many bytes follow.
NUMBERS_BEHIND = (0, 1, 0, 1, 1, 4, 3, 1)

REFUSED = -1
NO_FILE = -4


# Where there is no file, shapes is None; a file without shapes has an empty list.
class Land:
    def __init__(self):
        self.shapes = None

    def answer(self, call, numbers):
        if call == CALL_BEGIN:
            self.shapes = None
            return [0]
        if call == CALL_OPEN:
            return self.take_file(numbers)
        if self.shapes is None:
            return [NO_FILE]
        if call == CALL_COUNT:
            return [len(self.shapes)]
        if call == CALL_ABOUT:
            return self.about(numbers[0])
        raise NotImplementedError("box, part, at and area of a file are yet to be written")

    def take_file(self, data):
        try:
            shapes = read_file(data)
        except NotAFile:
            return [REFUSED]
        self.shapes = shapes
        return [0]

    def about(self, k):
        if not 0 <= k < len(self.shapes):
            return [REFUSED]
        shape = self.shapes[k]
        return [shape.kind, len(shape.parts), len(shape.all_points())]


def answers(calls):
    land = Land()
    told = []
    place = 0
    while place < len(calls):
        call = calls[place]
        start = place + 1
        end = start + NUMBERS_BEHIND[call]
        if call == CALL_OPEN:
            start = end
            end = start + calls[place + 1]
        answer = land.answer(call, calls[start:end])
        told.append(len(answer))
        told.extend(answer)
        place = end
    return told
