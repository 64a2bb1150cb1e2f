"""The calls on one object that holds code and perhaps a run, and their answers."""

from speakcode.faults import FORM_TOO_LONG, TextFault
from speakcode.forms import code_form
from speakcode.grammar import read_code
from speakcode.leading import leads_of
from speakcode.naming import check_names
from speakcode.replies import NO_CODE, NO_RUN, NO_SPOT, NOT_KNOWN, NOT_VERIFIED, with_length
from speakcode.run_calls import run_answer, standing
from speakcode.running import begun_run
from speakcode.tokens import MOST_BYTES, bytes_of, tokens_of
from speakcode.verifying import verdict_of

LOAD = 0
WITH_NUMBER = (4, 5)
WITH_ROW = (0, 6, 9)
OF_A_RUN = (7, 8, 9, 10, 11)

KIND_NUMBERS = {"truth": 0, "number": 1, "text": 2}


# Form and verdict are kept with the code: calls ask for them again and again. The run is kept with it, too, so
# that other code comes without one.
class Held:
    def __init__(self, code, form, verdict):
        self.code = code
        self.form = form
        self.verdict = verdict
        self.run = None

    def has_spot(self, spot):
        return 0 <= spot < len(self.code.instructions)


class Machine:
    def __init__(self):
        self.held = None


class Call:
    def __init__(self, number, numbers, end):
        self.number = number
        self.numbers = numbers
        self.end = end


def answers(calls):
    machine = Machine()
    told = []
    place = 0
    while place < len(calls):
        call = call_at(calls, place)
        answer = answer_of(machine, call)
        told.append(len(answer))
        told.extend(answer)
        place = call.end
    return told


def call_at(calls, place):
    number = calls[place]
    first = place + 1
    end = first
    if number in WITH_NUMBER:
        end = first + 1
    if number in WITH_ROW:
        first = place + 2
        end = first + calls[place + 1]
    return Call(number, calls[first:end], end)


def answer_of(machine, call):
    if call.number == LOAD:
        return load(machine, call.numbers)
    if machine.held is None:
        return [NO_CODE]
    if call.number in OF_A_RUN:
        return answer_of_run(machine.held.run, call)
    return ASKED[call.number](machine.held, call.numbers)


def answer_of_run(run, call):
    if run is None:
        return [NO_RUN]
    return run_answer(call.number, run, call.numbers)


def load(machine, text):
    try:
        machine.held = held_of(text)
    except TextFault as fault:
        return [0, fault.code, fault.place]
    return [1]


def held_of(text):
    code = read_code(tokens_of(text))
    check_names(code)
    form = code_form(code)
    if len(form) > MOST_BYTES:
        raise TextFault(FORM_TOO_LONG, 0)
    return Held(code, form, verdict_of(code))


def shown(held, numbers):
    return with_length(held.form)


def sizes(held, numbers):
    answer = [len(held.code.instructions)]
    answer.extend(with_length(bytes_of(held.code.title)))
    answer.extend(with_length(bytes_of(held.code.worker)))
    return answer


def verify(held, numbers):
    verdict = held.verdict
    if verdict.fault != 0:
        return [0, verdict.fault, verdict.spot]
    shapes = [verdict.shapes[spot] for spot in verdict.known]
    most_stack = max([len(shape.stack) for shape in shapes])
    most_slots = max([len(shape.slots) for shape in shapes])
    return [1, len(verdict.known), most_stack, most_slots]


def shape_at(held, numbers):
    spot = numbers[0]
    if not held.has_spot(spot):
        return [NO_SPOT]
    if held.verdict.fault != 0:
        return [NOT_VERIFIED]
    if spot not in held.verdict.shapes:
        return [NOT_KNOWN]
    shape = held.verdict.shapes[spot]
    return [1] + with_length(kind_numbers(shape.slots)) + with_length(kind_numbers(shape.stack))


def kind_numbers(kinds):
    return [KIND_NUMBERS[kind] for kind in kinds]


def leads_at(held, numbers):
    spot = numbers[0]
    if not held.has_spot(spot):
        return [NO_SPOT]
    return with_length(leads_of(held.code.instructions[spot], spot))


def begin(held, numbers):
    if held.verdict.fault != 0:
        return [NOT_VERIFIED]
    held.run = begun_run(held.code, numbers)
    return [standing(held.run)]


ASKED = {1: shown, 2: sizes, 3: verify, 4: shape_at, 5: leads_at, 6: begin}
