"""What one instruction makes of a shape: the kinds in the slots and on the stack."""

from speakcode.faults import NO_SLOT, STACK_NOT_EMPTY, TOO_FEW, TOO_MANY, WRONG_KIND, ShapeFault
from speakcode.operations import given_kind, taken_count, takes

MOST_STACK = 64
MOST_SLOTS = 32


# Both are tuples, slot 0 first and the stack's top first.
class Shape:
    def __init__(self, slots, stack):
        self.slots = slots
        self.stack = stack


def same_shape(shape, other):
    return shape.slots == other.slots and shape.stack == other.stack


def put_kind(shape, kind):
    if len(shape.stack) == MOST_STACK:
        raise ShapeFault(TOO_MANY)
    return Shape(shape.slots, (kind,) + shape.stack)


def take_kinds(shape, count):
    if len(shape.stack) < count:
        raise ShapeFault(TOO_FEW)
    return Shape(shape.slots, shape.stack[count:])


def take_kind(shape, kind):
    rest = take_kinds(shape, 1)
    check(shape.stack[0] == kind, WRONG_KIND)
    return rest


def check(holds, number):
    if not holds:
        raise ShapeFault(number)


def check_empty(shape):
    check(len(shape.stack) == 0, STACK_NOT_EMPTY)


def more_slots(shape, kinds):
    check(len(shape.slots) + len(kinds) <= MOST_SLOTS, TOO_MANY)
    return Shape(shape.slots + tuple(kinds), shape.stack)


def kinds_of(ranges):
    return [extent.kind for extent in ranges]


def slot_kind(shape, number):
    check(number < len(shape.slots), NO_SLOT)
    return shape.slots[number]


def behind_push(instruction, shape):
    return put_kind(shape, instruction.value.kind)


def behind_get(instruction, shape):
    return put_kind(shape, slot_kind(shape, instruction.number))


def behind_op(instruction, shape):
    count = taken_count(instruction.operation)
    rest = take_kinds(shape, count)
    # The top is the last argument.
    arguments = tuple(reversed(shape.stack[:count]))
    check(takes(instruction.operation, arguments), WRONG_KIND)
    return put_kind(rest, given_kind(instruction.operation))


def behind_jump(instruction, shape):
    return shape


def behind_skip(instruction, shape):
    return take_kind(shape, "truth")


def behind_if(instruction, shape):
    rest = take_kind(shape, "truth")
    check_empty(rest)
    return rest


def behind_set(instruction, shape):
    kind = slot_kind(shape, instruction.number)
    rest = take_kind(shape, kind)
    check(instruction.ranges[0].kind == kind, WRONG_KIND)
    check_empty(rest)
    return rest


def behind_any(instruction, shape):
    check_empty(shape)
    return more_slots(shape, ["number"])


# Of pick, and of stop, which leads nowhere.
def behind_pick(instruction, shape):
    check_empty(shape)
    return shape


def behind_go(instruction, shape):
    kinds = kinds_of(instruction.ranges)
    rest = shape
    for kind in reversed(kinds):
        rest = take_kind(rest, kind)
    check_empty(rest)
    return Shape(tuple(kinds), ())


def behind_send(instruction, shape):
    rest = take_kinds(shape, instruction.number)
    check_empty(rest)
    return rest


BEHIND = {
    "push": behind_push,
    "get": behind_get,
    "op": behind_op,
    "jump": behind_jump,
    "skip": behind_skip,
    "if": behind_if,
    "set": behind_set,
    "any": behind_any,
    "pick": behind_pick,
    "go": behind_go,
    "send": behind_send,
    "stop": behind_pick,
}


def ways_behind(instruction, shape):
    check_empty(shape)
    return [more_slots(shape, kinds_of(way.ranges)) for way in instruction.ways]


# One shape for each of the spots to which the instruction leads, in their order.
def shapes_behind(instruction, shape, leads):
    if instruction.word == "recv":
        return ways_behind(instruction, shape)
    behind = BEHIND[instruction.word](instruction, shape)
    return [behind for spot in leads]
