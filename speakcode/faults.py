"""The faults of a text and of code, by the numbers that are told of them, and that of a run, which has none."""

TEXT_TOO_LONG = 1
NO_TOKEN = 2
NOT_ALLOWED = 3
ONE_TOO_MANY = 4
NAMED_EARLIER = 5
WRONG_NUMBER = 7
FORM_TOO_LONG = 10
SAME_SEAT = 14
NAMES_WORKER = 15

LEADS_BEYOND = 1
TOO_FEW = 2
WRONG_KIND = 3
NO_SLOT = 4
TOO_MANY = 5
STACK_NOT_EMPTY = 6
OTHER_SHAPE = 7
SILENT_ROUND = 9


class TextFault(Exception):
    def __init__(self, code, place):
        self.code = code
        self.place = place


class ShapeFault(Exception):
    def __init__(self, number):
        self.number = number


class RunFault(Exception):
    pass
