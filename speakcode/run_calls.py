"""The calls on a run, and their answers."""

from speakcode.faults import TextFault
from speakcode.forms import message_form, value_form
from speakcode.messages import message_of
from speakcode.replies import NO_MESSAGE, NO_MORE_MESSAGES, NO_WAY, NOT_FITTING, NOT_STANDING_THERE
from speakcode.replies import OTHER_COUNT, OTHER_SEATS, with_length
from speakcode.running import all_fit, go_on_behind_send, go_on_by_way, message_to_send
from speakcode.tokens import bytes_of

HAS_FAILED = 3
STANDINGS = {"stop": 0, "send": 1, "recv": 2}

SENT = 1
HEARD = 2
MOST_MESSAGES = 1000


def run_answer(number, run, numbers):
    return RUN_CALLS[number](run, numbers)


def standing(run):
    return HAS_FAILED if run.failed else STANDINGS[run.instruction().word]


def status(run, numbers):
    answer = [standing(run), run.spot, run.silent]
    if run.stands_at("send"):
        answer.extend(seats_told(run.instruction()))
        answer.extend(with_length(message_form(message_to_send(run))))
    if run.stands_at("recv"):
        answer.extend(seats_told(run.instruction()))
        answer.extend(ways_told(run.instruction()))
    return answer


def seats_told(instruction):
    return name_told(instruction.seats[0]) + name_told(instruction.seats[1])


def ways_told(instruction):
    row = [len(instruction.ways)]
    for way in instruction.ways:
        row.extend(name_told(way.label))
    return row


def name_told(token):
    return with_length(bytes_of(token.content))


def send(run, numbers):
    if not run.stands_at("send"):
        return [NOT_STANDING_THERE]
    if len(run.messages) == MOST_MESSAGES:
        return [NO_MORE_MESSAGES]
    form = message_form(message_to_send(run))
    run.messages.append((SENT, form))
    go_on_behind_send(run)
    return with_length(form)


def hear(run, text):
    if not run.stands_at("recv"):
        return [NOT_STANDING_THERE]
    try:
        message = message_of(text)
    except TextFault:
        return [NO_MESSAGE]
    if len(run.messages) == MOST_MESSAGES:
        return [NO_MORE_MESSAGES]
    number = way_number(run.instruction().ways, message)
    if number < 0:
        return [NO_WAY]
    return hear_by_way(run, message, number)


# Below 0 where no way has the message's label; two ways of one recv never have the same.
def way_number(ways, message):
    for number, way in enumerate(ways):
        if way.label.content == message.label.content:
            return number
    return -1


def hear_by_way(run, message, number):
    way = run.instruction().ways[number]
    if len(message.carried) != len(way.ranges):
        return [OTHER_COUNT]
    if not all_fit(message.carried, way.ranges):
        return [NOT_FITTING]
    if names_of(message.handed) != names_of(way.handed):
        return [OTHER_SEATS]
    run.messages.append((HEARD, message_form(message)))
    go_on_by_way(run, way, message)
    return [number]


def names_of(seats):
    return [seat.content for seat in seats]


def slots(run, numbers):
    answer = [len(run.slots)]
    for value in run.slots:
        answer.extend(with_length(value_form(value)))
    return answer


def told(run, numbers):
    answer = [len(run.messages)]
    for direction, form in run.messages:
        answer.append(direction)
        answer.extend(with_length(form))
    return answer


RUN_CALLS = {7: status, 8: send, 9: hear, 10: slots, 11: told}
