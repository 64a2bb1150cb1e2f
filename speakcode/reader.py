"""Tokens, taken one behind another; a token that may not stand where it stands is a fault."""

from speakcode.faults import NOT_ALLOWED, ONE_TOO_MANY, WRONG_NUMBER, TextFault

RESERVED = (
    "script", "parties", "seat", "of", "start", "end", "both", "flag", "num", "text", "part", "stop",
    "send", "recv", "program", "for", "def", "if", "pick", "any", "set", "go", "true", "false",
)


class Reader:
    def __init__(self, tokens):
        self.tokens = tokens
        self.position = 0

    def current(self):
        return self.tokens[self.position]

    def at_end(self):
        return self.current().kind == "end"

    def stands(self, kind, content):
        token = self.current()
        return token.kind == kind and token.content == content

    def take_if(self, allowed):
        token = self.current()
        if not allowed:
            raise TextFault(NOT_ALLOWED, token.place)
        self.position += 1
        return token

    def take_word(self, word):
        return self.take_if(self.stands("word", word))

    def take_sign(self, sign):
        return self.take_if(self.stands("sign", sign))

    def take_name(self):
        return self.take_if(is_name(self.current()))

    def take_number(self):
        return self.take_if(is_number(self.current()))

    def take_within(self, low, high):
        token = self.take_number()
        if not low <= token.content <= high:
            raise TextFault(WRONG_NUMBER, token.place)
        return token.content

    def passes(self, kind, content):
        if not self.stands(kind, content):
            return False
        self.position += 1
        return True


def is_name(token):
    return token.kind == "word" and token.content not in RESERVED


def is_number(token):
    return token.kind == "number"


# One or more things with a comma between each two. Where the next would be one too many, but its first
# token could not begin one, read_one tells the fault that it would be anywhere else.
def read_listed(reader, most, begins, read_one):
    things = [read_one(reader)]
    while reader.passes("sign", ","):
        if len(things) == most and begins(reader.current()):
            raise TextFault(ONE_TOO_MANY, reader.current().place)
        things.append(read_one(reader))
    return things
