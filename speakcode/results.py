"""What the operations give, and where they fail."""

from speakcode.faults import RunFault
from speakcode.operations import given_kind
from speakcode.parts import Value
from speakcode.tokens import MOST_TOLD_BYTES, bytes_of

GREATEST_RESULT = 1000000000000000000


def negated(number):
    return -number


def without_sign(number):
    return abs(number)


def other_truth(truth):
    return not truth


def length(text):
    return len(text)


def digits(number):
    return bytes_of(str(number))


def total(one, other):
    return one + other


def difference(one, other):
    return one - other


def product(one, other):
    return one * other


def quotient(one, other):
    check_divisor(other)
    return one // other


def remainder(one, other):
    check_divisor(other)
    return one % other


def check_divisor(number):
    if number <= 0:
        raise RunFault()


def lesser(one, other):
    return min(one, other)


def greater(one, other):
    return max(one, other)


def is_below(one, other):
    return one < other


def is_not_above(one, other):
    return one <= other


def is_same(one, other):
    return one == other


def both_hold(one, other):
    return one and other


def one_holds(one, other):
    return one or other


def first_bytes(text, count):
    return text[:max(0, count)]


def bytes_behind(text, count):
    return text[max(0, count):]


def byte_at_offset(text, offset):
    return text[offset] if 0 <= offset < len(text) else -1


OF_ONE = {
    "neg": negated,
    "abs": without_sign,
    "not": other_truth,
    "len": length,
    "digits": digits,
}

# Texts are lists of bytes, so join is the same sum as add.
OF_TWO = {
    "add": total,
    "sub": difference,
    "mul": product,
    "div": quotient,
    "mod": remainder,
    "min": lesser,
    "max": greater,
    "lt": is_below,
    "le": is_not_above,
    "eq": is_same,
    "and": both_hold,
    "or": one_holds,
    "join": total,
    "first": first_bytes,
    "rest": bytes_behind,
    "at": byte_at_offset,
}


def result_of(operation, arguments):
    if operation in OF_ONE:
        content = OF_ONE[operation](arguments[0].content)
    else:
        content = OF_TWO[operation](arguments[0].content, arguments[1].content)
    result = Value(given_kind(operation), content)
    if not is_within_bounds(result):
        raise RunFault()
    return result


def is_within_bounds(value):
    if value.kind == "number":
        return -GREATEST_RESULT <= value.content <= GREATEST_RESULT
    return value.kind == "truth" or len(value.content) <= MOST_TOLD_BYTES
