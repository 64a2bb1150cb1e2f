"""Running verified code: silent instructions, and the messages between them."""

from speakcode.faults import RunFault
from speakcode.operations import taken_count
from speakcode.parts import Message, Value
from speakcode.results import result_of


# The stack's top is last. What is drawn from the numbers is counted, so that they stay as they were.
class Run:
    def __init__(self, instructions, numbers):
        self.instructions = instructions
        self.numbers = numbers
        self.drawn = 0
        self.spot = 0
        self.slots = []
        self.stack = []
        self.silent = 0
        self.failed = False
        self.messages = []

    def instruction(self):
        return self.instructions[self.spot]

    def stands_at(self, word):
        return not self.failed and self.instruction().word == word

    def draw(self):
        if self.drawn == len(self.numbers):
            return 0
        self.drawn += 1
        return self.numbers[self.drawn - 1]

    def on_top(self, count):
        return self.stack[len(self.stack) - count:]

    def take_off(self, count):
        self.stack = self.stack[:len(self.stack) - count]


def begun_run(code, numbers):
    run = Run(code.instructions, numbers)
    go_on(run)
    return run


# A silent instruction looks for all that can fail before it changes anything: a run that fails stands as it stood.
def go_on(run):
    try:
        while run.instruction().word in SILENT:
            instruction = run.instruction()
            run.spot = SILENT[instruction.word](run, instruction)
            run.silent += 1
    except RunFault:
        run.failed = True


def do_push(run, instruction):
    run.stack.append(instruction.value)
    return run.spot + 1


def do_get(run, instruction):
    run.stack.append(run.slots[instruction.number])
    return run.spot + 1


def do_op(run, instruction):
    count = taken_count(instruction.operation)
    result = result_of(instruction.operation, run.on_top(count))
    run.take_off(count)
    run.stack.append(result)
    return run.spot + 1


def do_jump(run, instruction):
    return instruction.spots[0]


# Of if, too, which is the same but for what verifying asks of the stack.
def do_skip(run, instruction):
    truth = run.stack.pop().content
    return run.spot + 1 if truth else instruction.spots[0]


def do_set(run, instruction):
    check_fitting(run.on_top(1), instruction.ranges)
    run.slots[instruction.number] = run.stack.pop()
    return run.spot + 1


def do_any(run, instruction):
    extent = instruction.high - instruction.low + 1
    run.slots.append(Value("number", instruction.low + run.draw() % extent))
    return run.spot + 1


def do_pick(run, instruction):
    return instruction.spots[run.draw() % len(instruction.spots)]


def do_go(run, instruction):
    count = len(instruction.ranges)
    found = run.on_top(count)
    check_fitting(found, instruction.ranges)
    run.take_off(count)
    run.slots = found
    return instruction.spots[0]


SILENT = {
    "push": do_push,
    "get": do_get,
    "op": do_op,
    "jump": do_jump,
    "skip": do_skip,
    "if": do_skip,
    "set": do_set,
    "any": do_any,
    "pick": do_pick,
    "go": do_go,
}


def check_fitting(found, ranges):
    if not all_fit(found, ranges):
        raise RunFault()


def all_fit(found, ranges):
    return all([fits(value, extent) for value, extent in zip(found, ranges)])


def fits(value, extent):
    if value.kind != extent.kind:
        return False
    if value.kind == "text":
        return len(value.content) <= extent.high
    return value.kind == "truth" or extent.low <= value.content <= extent.high


def message_to_send(run):
    instruction = run.instruction()
    return Message(instruction.label, run.on_top(instruction.number), instruction.handed)


def go_on_behind_send(run):
    run.take_off(run.instruction().number)
    run.spot += 1
    go_on(run)


def go_on_by_way(run, way, message):
    run.slots.extend(message.carried)
    run.spot = way.spot
    go_on(run)
