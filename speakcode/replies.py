"""What the answers of calls share: the refusals, and rows with their length."""

NO_CODE = -1
NO_SPOT = -2
NOT_VERIFIED = -5
NOT_KNOWN = -6
NO_RUN = -7
NOT_STANDING_THERE = -8
NO_MESSAGE = -9
NO_MORE_MESSAGES = -10
NO_WAY = -11
OTHER_COUNT = -12
NOT_FITTING = -13
OTHER_SEATS = -14


def with_length(row):
    return [len(row)] + row
