"""Messages, out of the text that is heard."""

from speakcode.grammar import MOST_SENT, begins_value, read_handed, read_value
from speakcode.parts import Message
from speakcode.reader import Reader, read_listed
from speakcode.tokens import tokens_of


def message_of(text):
    reader = Reader(tokens_of(text))
    label = reader.take_name()
    carried = read_carried(reader)
    handed = read_handed(reader)
    reader.take_if(reader.at_end())
    return Message(label, carried, handed)


def read_carried(reader):
    carried = []
    reader.take_sign("(")
    if not reader.stands("sign", ")"):
        carried = read_listed(reader, MOST_SENT, begins_value, read_value)
    reader.take_sign(")")
    return carried
