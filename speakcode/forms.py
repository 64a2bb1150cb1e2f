"""The one form in which values, ranges, instructions, code and messages are shown."""

from speakcode.tokens import BACKSLASH, LINE_END, QUOTE, SMALL_DIGITS, bytes_of

FIRST_PLAIN_BYTE = 32
LAST_PLAIN_BYTE = 126


def code_form(code):
    form = bytes_of(" ".join(["code", code.title, "for", code.worker]) + "\n")
    for instruction in code.instructions:
        form.extend(instruction_form(instruction))
        form.extend(bytes_of(" ;\n"))
    return form


def instruction_form(instruction):
    # A pushed text may hold any byte, so this instruction alone is put together out of bytes.
    if instruction.word == "push":
        return bytes_of("push ") + value_form(instruction.value)
    return bytes_of(FORMS[instruction.word](instruction))


def value_form(value):
    if value.kind == "truth":
        return bytes_of("true" if value.content else "false")
    if value.kind == "number":
        return bytes_of(str(value.content))
    form = [QUOTE]
    for byte in value.content:
        form.extend(byte_form(byte))
    form.append(QUOTE)
    return form


# The values of a message may hold any byte, as a pushed text may.
def message_form(message):
    form = bytes_of(message.label.content + "(")
    for number, value in enumerate(message.carried):
        if number > 0:
            form.extend(bytes_of(", "))
        form.extend(value_form(value))
    form.extend(bytes_of(")" + handed_form(message.handed)))
    return form


def byte_form(byte):
    if byte in (QUOTE, BACKSLASH):
        return [BACKSLASH, byte]
    if byte == LINE_END:
        return bytes_of("\\n")
    if byte < FIRST_PLAIN_BYTE or byte > LAST_PLAIN_BYTE:
        return bytes_of("\\x" + SMALL_DIGITS[byte // 16] + SMALL_DIGITS[byte % 16])
    return [byte]


def range_form(extent):
    if extent.kind == "truth":
        return "flag"
    if extent.kind == "number":
        return " ".join(["num", str(extent.low), str(extent.high)])
    return " ".join(["text", str(extent.high)])


def ranges_form(ranges):
    return "(" + ", ".join([range_form(extent) for extent in ranges]) + ")"


def handed_form(handed):
    if len(handed) == 0:
        return ""
    return "[" + ", ".join([seat.content for seat in handed]) + "]"


def way_form(way):
    return way.label.content + ranges_form(way.ranges) + handed_form(way.handed) + " " + str(way.spot)


def get_form(instruction):
    return "get " + str(instruction.number)


def op_form(instruction):
    return "op " + instruction.operation


# Of jump, skip, if and pick, which are a word and spots alike.
def spots_form(instruction):
    return instruction.word + " " + ", ".join([str(spot) for spot in instruction.spots])


def set_form(instruction):
    return " ".join(["set", str(instruction.number), range_form(instruction.ranges[0])])


def any_form(instruction):
    return " ".join(["any", str(instruction.low), str(instruction.high)])


def go_form(instruction):
    return "go " + str(instruction.spots[0]) + ranges_form(instruction.ranges)


def send_form(instruction):
    message = instruction.label.content + "(" + str(instruction.number) + ")" + handed_form(instruction.handed)
    return " ".join(["send", instruction.seats[0].content, "->", instruction.seats[1].content, message])


def recv_form(instruction):
    ways = " , ".join([way_form(way) for way in instruction.ways])
    return " ".join(["recv", instruction.seats[0].content, "<-", instruction.seats[1].content, "{", ways, "}"])


def stop_form(instruction):
    return "stop"


FORMS = {
    "get": get_form,
    "op": op_form,
    "jump": spots_form,
    "skip": spots_form,
    "if": spots_form,
    "set": set_form,
    "any": any_form,
    "pick": spots_form,
    "go": go_form,
    "send": send_form,
    "recv": recv_form,
    "stop": stop_form,
}
