"""The grammar: code out of tokens."""

from speakcode.faults import WRONG_NUMBER, TextFault
from speakcode.operations import is_operation
from speakcode.parts import Code, Instruction, Value, ValueRange, Way
from speakcode.reader import Reader, is_name, is_number, read_listed

GREATEST_SPOT = 1000000000
GREATEST_SLOT = 31
GREATEST_TEXT_RANGE = 255
MOST_SENT = 4
MOST_PICKED = 16
MOST_GO_RANGES = 8
MOST_WAYS = 16
MOST_WAY_RANGES = 4
MOST_HANDED = 2


def read_spot(reader):
    return reader.take_within(0, GREATEST_SPOT)


def read_bounds(reader):
    low = reader.take_number()
    high = reader.take_number()
    if high.content < low.content:
        raise TextFault(WRONG_NUMBER, high.place)
    return (low.content, high.content)


def begins_value(token):
    return token.kind in ("number", "quoted") or (token.kind == "word" and token.content in ("true", "false"))


def read_value(reader):
    for word in ("true", "false"):
        if reader.passes("word", word):
            return Value("truth", word == "true")
    token = reader.current()
    reader.take_if(token.kind in ("number", "quoted"))
    return Value("number" if token.kind == "number" else "text", token.content)


def begins_range(token):
    return token.kind == "word" and token.content in ("flag", "num", "text")


def read_range(reader):
    if reader.passes("word", "flag"):
        return ValueRange("truth", 0, 1)
    if reader.passes("word", "num"):
        bounds = read_bounds(reader)
        return ValueRange("number", bounds[0], bounds[1])
    reader.take_word("text")
    return ValueRange("text", 0, reader.take_within(0, GREATEST_TEXT_RANGE))


def read_ranges(reader, most):
    ranges = []
    reader.take_sign("(")
    if not reader.stands("sign", ")"):
        ranges = read_listed(reader, most, begins_range, read_range)
    reader.take_sign(")")
    return ranges


def read_name(reader):
    return reader.take_name()


def read_handed(reader):
    if not reader.passes("sign", "["):
        return []
    handed = read_listed(reader, MOST_HANDED, is_name, read_name)
    reader.take_sign("]")
    return handed


def read_way(reader):
    label = reader.take_name()
    ranges = read_ranges(reader, MOST_WAY_RANGES)
    handed = read_handed(reader)
    return Way(label, ranges, handed, read_spot(reader))


def read_push(reader, instruction):
    instruction.value = read_value(reader)


def read_get(reader, instruction):
    instruction.number = reader.take_within(0, GREATEST_SLOT)


def read_op(reader, instruction):
    token = reader.current()
    reader.take_if(token.kind == "word" and is_operation(token.content))
    instruction.operation = token.content


def read_jump(reader, instruction):
    instruction.spots = [read_spot(reader)]


def read_set(reader, instruction):
    instruction.number = reader.take_within(0, GREATEST_SLOT)
    instruction.ranges = [read_range(reader)]


def read_any(reader, instruction):
    bounds = read_bounds(reader)
    instruction.low = bounds[0]
    instruction.high = bounds[1]


def read_pick(reader, instruction):
    instruction.spots = read_listed(reader, MOST_PICKED, is_number, read_spot)


def read_go(reader, instruction):
    instruction.spots = [read_spot(reader)]
    instruction.ranges = read_ranges(reader, MOST_GO_RANGES)


def read_send(reader, instruction):
    sender = reader.take_name()
    reader.take_sign("->")
    instruction.seats = [sender, reader.take_name()]
    instruction.label = reader.take_name()
    reader.take_sign("(")
    instruction.number = reader.take_within(0, MOST_SENT)
    reader.take_sign(")")
    instruction.handed = read_handed(reader)


def read_recv(reader, instruction):
    hearer = reader.take_name()
    reader.take_sign("<-")
    instruction.seats = [hearer, reader.take_name()]
    reader.take_sign("{")
    instruction.ways = read_listed(reader, MOST_WAYS, is_name, read_way)
    reader.take_sign("}")


def read_stop(reader, instruction):
    pass


READERS = {
    "push": read_push,
    "get": read_get,
    "op": read_op,
    "jump": read_jump,
    "skip": read_jump,
    "if": read_jump,
    "set": read_set,
    "any": read_any,
    "pick": read_pick,
    "go": read_go,
    "send": read_send,
    "recv": read_recv,
    "stop": read_stop,
}


def read_instruction(reader):
    token = reader.current()
    reader.take_if(token.kind == "word" and token.content in READERS)
    instruction = Instruction(token.content)
    READERS[token.content](reader, instruction)
    reader.take_sign(";")
    return instruction


def read_code(tokens):
    reader = Reader(tokens)
    reader.take_word("code")
    title = reader.take_name()
    reader.take_word("for")
    worker = reader.take_name()
    instructions = [read_instruction(reader)]
    while not reader.at_end():
        instructions.append(read_instruction(reader))
    return Code(title.content, worker.content, instructions)
