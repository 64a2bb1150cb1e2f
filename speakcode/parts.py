"""What code and messages are made of, once they have been read."""


class Value:
    def __init__(self, kind, content):
        self.kind = kind
        self.content = content


class ValueRange:
    def __init__(self, kind, low, high):
        self.kind = kind
        self.low = low
        self.high = high


# Seats, labels and handed seats are kept as tokens: the faults of names need their places.
class Way:
    def __init__(self, label, ranges, handed, spot):
        self.label = label
        self.ranges = ranges
        self.handed = handed
        self.spot = spot


# One class serves every instruction: what an instruction does not have stays empty.
class Instruction:
    def __init__(self, word):
        self.word = word
        self.number = 0
        self.value = None
        self.operation = ""
        self.low = 0
        self.high = 0
        self.spots = []
        self.ranges = []
        self.seats = []
        self.label = None
        self.handed = []
        self.ways = []


# A message that is heard, or that can be sent; carried are its values.
class Message:
    def __init__(self, label, carried, handed):
        self.label = label
        self.carried = carried
        self.handed = handed


class Code:
    def __init__(self, title, worker, instructions):
        self.title = title
        self.worker = worker
        self.instructions = instructions
