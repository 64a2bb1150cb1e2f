"""The faults of names: seats, labels and handed seats that may not be the same."""

from speakcode.faults import NAMED_EARLIER, NAMES_WORKER, SAME_SEAT, TextFault


def check_names(code):
    for instruction in code.instructions:
        check_seats(instruction.seats)
        check_handed(instruction.handed, code.worker)
        check_ways(instruction.ways, code.worker)


def check_seats(seats):
    if len(seats) == 2 and seats[0].content == seats[1].content:
        raise TextFault(SAME_SEAT, seats[1].place)


def check_handed(handed, worker):
    earlier = {}
    for seat in handed:
        if seat.content == worker:
            raise TextFault(NAMES_WORKER, seat.place)
        check_new(seat, earlier)


def check_ways(ways, worker):
    earlier = {}
    for way in ways:
        check_new(way.label, earlier)
        check_handed(way.handed, worker)


def check_new(token, earlier):
    if token.content in earlier:
        raise TextFault(NAMED_EARLIER, token.place)
    earlier[token.content] = True
