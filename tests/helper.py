"""What the tests share: calls put together, answers taken apart, and the worked code."""

from speakcode.machine import answers

SHOWN = [1]
SIZES = [2]
VERIFY = [3]
STATUS = [7]
SEND = [8]
SLOTS = [10]
TOLD = [11]

HEAD = "code T for W "

ASK = """code Ask for A
any 0 9 ;
get 0 ;
push 5 ;
op lt ;
if 8 ;
get 0 ;
send A -> B low(1) ;
jump 9 ;
send A -> B high(0)[K] ;
recv A <- B { yes() 11 , no(num 0 9, flag)[K] 10 } ;
stop ;
push 7 ;
go 13(num 0 9) ;
stop ;
"""


def raw(text):
    """The bytes of a text; a character of a str stands for the byte of its number."""
    return list(text if isinstance(text, bytes) else text.encode("latin-1"))


def load(text):
    return [0, len(raw(text))] + raw(text)


def shape(spot):
    return [4, spot]


def leads(spot):
    return [5, spot]


def begin(numbers):
    return [6, len(numbers)] + list(numbers)


def hear(message):
    return [9, len(raw(message))] + raw(message)


def split_answers(numbers):
    parts = []
    place = 0
    while place < len(numbers):
        end = place + 1 + numbers[place]
        parts.append(numbers[place + 1:end])
        place = end
    return parts


def ask(*calls):
    """The answers of one list of calls, one list each."""
    return split_answers(answers([number for call in calls for number in call]))


def asked_of(text, *calls):
    """The answers of calls behind a load, which must succeed."""
    told = ask(load(text), *calls)
    if told[0] != [1]:
        raise AssertionError(f"load of {text!r} answered {told[0]}")
    return told[1:]


def form_of(text):
    """The one form of code, as a str of its bytes."""
    told = asked_of(text, SHOWN)[0]
    if told[0] != len(told) - 1:
        raise AssertionError(f"shown told a length of {told[0]} before {len(told) - 1} bytes")
    return bytes(told[1:]).decode("latin-1")


def sized(text):
    """The bytes of a text with their length ahead."""
    return [len(raw(text))] + raw(text)


def run_of(text, numbers, *calls):
    """The answers of calls behind a load, which must succeed, and a begin, whose answer is left out."""
    return asked_of(text, begin(numbers), *calls)[1:]


def values_of(answer):
    """What slots answered: the values' forms, each a str."""
    return sized_parts(answer[1:], answer[0], 0)


def messages_of(answer):
    """What told answered: for each message the number ahead of it, and its form."""
    return [tuple(part) for part in sized_parts(answer[1:], answer[0], 1)]


def sized_parts(numbers, count, ahead):
    parts = []
    place = 0
    for turn in range(count):
        first = place + ahead + 1
        end = first + numbers[first - 1]
        form = bytes(numbers[first:end]).decode("latin-1")
        if len(form) != numbers[first - 1]:
            raise AssertionError("fewer bytes than their length says")
        parts.append(numbers[place:place + ahead] + [form] if ahead else form)
        place = end
    if place != len(numbers):
        raise AssertionError("more numbers than the lengths say")
    return parts


def marked(text):
    """A text with an @ ahead of a byte: the text without the @, and that byte's place."""
    return text.replace("@", "", 1), text.index("@")
