"""What each operation gives in a run, and where it fails."""

import unittest

from helper import HEAD, SEND, STATUS, run_of, sized

GREATEST = 10 ** 18
WRITABLE = 10 ** 9


def form(value):
    if isinstance(value, bool):
        return "true" if value else "false"
    if isinstance(value, int):
        return str(value)
    return '"' + "".join(byte_form(byte) for byte in value) + '"'


def byte_form(byte):
    if byte in b'"\\':
        return "\\" + chr(byte)
    if byte == 10:
        return "\\n"
    return chr(byte) if 32 <= byte <= 126 else f"\\x{byte:02x}"


def given(value):
    """Instructions that put a value on the stack; a number may lie beyond what can be written."""
    if isinstance(value, bool) or not isinstance(value, int) or abs(value) <= WRITABLE:
        return [f"push {form(value)}"]
    return [f"push {value // WRITABLE}", f"push {WRITABLE}", "op mul", f"push {value % WRITABLE}", "op add"]


class Results(unittest.TestCase):
    def code_of(self, operation, arguments):
        instructions = [instruction for value in arguments for instruction in given(value)]
        text = HEAD + ";".join(instructions + [f"op {operation}", "send A -> B r(1)", "stop"]) + ";"
        return text, len(instructions)

    def gives(self, operation, arguments, result):
        text, spot = self.code_of(operation, arguments)
        told = run_of(text, [], STATUS, SEND)
        self.assertEqual(told[0][:3], [1, spot + 1, spot + 1], (operation, arguments))
        self.assertEqual(told[1], sized(f"r({form(result)})"), (operation, arguments))

    def fails(self, operation, arguments):
        text, spot = self.code_of(operation, arguments)
        self.assertEqual(run_of(text, [], STATUS, SEND), [[3, spot, spot], [-8]], (operation, arguments))

    def test_neg(self):
        for number in (0, 1, -1, 7, WRITABLE, -WRITABLE, GREATEST, -GREATEST):
            self.gives("neg", (number,), -number)

    def test_abs(self):
        for number in (0, 1, -1, 7, -7, GREATEST, -GREATEST):
            self.gives("abs", (number,), abs(number))

    def test_not(self):
        self.gives("not", (True,), False)
        self.gives("not", (False,), True)

    def test_len(self):
        for text in (b"", b"a", b'"\\\n\x00\xff', b"z" * 255):
            self.gives("len", (text,), len(text))

    def test_digits(self):
        for number in (0, 7, -7, 10, -100, 1234567890123456789 // 10, GREATEST, -GREATEST):
            self.gives("digits", (number,), str(number).encode())

    def test_add(self):
        for pair in ((0, 0), (2, 3), (2, -3), (-2, -3), (GREATEST, 0), (GREATEST - 1, 1), (1 - GREATEST, -1),
                     (GREATEST, -GREATEST), (GREATEST, -1), (-GREATEST, 0)):
            self.gives("add", pair, sum(pair))
        for pair in ((GREATEST, 1), (1, GREATEST), (-GREATEST, -1), (-1, -GREATEST), (GREATEST, GREATEST),
                     (-GREATEST, -GREATEST)):
            self.fails("add", pair)

    def test_sub(self):
        for pair in ((0, 0), (2, 3), (3, 2), (-2, -3), (GREATEST, 0), (GREATEST, GREATEST), (GREATEST - 1, -1),
                     (1 - GREATEST, 1), (0, GREATEST), (0, -GREATEST)):
            self.gives("sub", pair, pair[0] - pair[1])
        for pair in ((GREATEST, -1), (1, -GREATEST), (-GREATEST, 1), (-1, GREATEST), (GREATEST, -GREATEST)):
            self.fails("sub", pair)

    def test_mul(self):
        for pair in ((0, 5), (2, 3), (-2, 3), (-2, -3), (WRITABLE, WRITABLE), (-WRITABLE, WRITABLE), (GREATEST, 1),
                     (GREATEST, -1), (GREATEST, 0), (-GREATEST, -1), (WRITABLE - 1, WRITABLE + 1)):
            self.gives("mul", pair, pair[0] * pair[1])
        for pair in ((GREATEST, 2), (2, -GREATEST), (WRITABLE + 1, WRITABLE), (-WRITABLE, WRITABLE + 1),
                     (GREATEST, GREATEST), (-GREATEST, -GREATEST), (WRITABLE + 1, -WRITABLE)):
            self.fails("mul", pair)

    def test_div_and_mod(self):
        cases = ((7, 2, 3, 1), (-7, 2, -4, 1), (6, 2, 3, 0), (-6, 2, -3, 0), (0, 5, 0, 0), (1, 5, 0, 1), (-1, 5, -1, 4),
                 (5, 1, 5, 0), (-5, 1, -5, 0), (GREATEST, 1, GREATEST, 0), (-GREATEST, 1, -GREATEST, 0),
                 (GREATEST, GREATEST, 1, 0), (GREATEST - 1, GREATEST, 0, GREATEST - 1), (-1, GREATEST, -1, GREATEST - 1),
                 (-GREATEST, 3, -333333333333333334, 2), (GREATEST, 7, 142857142857142857, 1))
        for one, other, quotient, rest in cases:
            self.gives("div", (one, other), quotient)
            self.gives("mod", (one, other), rest)

    def test_div_and_mod_fail(self):
        for operation in ("div", "mod"):
            for one in (0, 7, -7, GREATEST):
                for other in (0, -1, -2, -GREATEST):
                    self.fails(operation, (one, other))

    def test_min_and_max(self):
        for one, other in ((1, 2), (2, 1), (3, 3), (-1, 1), (-1, -2), (GREATEST, -GREATEST), (0, GREATEST)):
            self.gives("min", (one, other), min(one, other))
            self.gives("max", (one, other), max(one, other))

    def test_lt_and_le(self):
        for one, other in ((1, 2), (2, 1), (3, 3), (-1, 1), (-1, -2), (GREATEST - 1, GREATEST), (-GREATEST, -GREATEST)):
            self.gives("lt", (one, other), one < other)
            self.gives("le", (one, other), one <= other)

    def test_eq(self):
        for one, other in ((1, 1), (1, 2), (0, 0), (-1, 1), (GREATEST, GREATEST), (GREATEST, GREATEST - 1),
                           (True, True), (True, False), (False, True), (False, False),
                           (b"", b""), (b"", b"a"), (b"a", b"a"), (b"a", b"A"), (b"ab", b"a"), (b"\x00", b"")):
            self.gives("eq", (one, other), one == other)

    def test_and_and_or(self):
        for one in (True, False):
            for other in (True, False):
                self.gives("and", (one, other), one and other)
                self.gives("or", (one, other), one or other)

    def test_join(self):
        for one, other in ((b"", b""), (b"a", b""), (b"", b"a"), (b"ab", b"cd"), (b"\xff\n", b'"\\'),
                           (b"a" * 255, b""), (b"", b"a" * 255), (b"a" * 254, b"b"), (b"a" * 100, b"b" * 155)):
            self.gives("join", (one, other), one + other)
        for one, other in ((b"a" * 255, b"b"), (b"a", b"b" * 255), (b"a" * 128, b"b" * 128), (b"a" * 255, b"b" * 255)):
            self.fails("join", (one, other))

    def test_first_and_rest(self):
        for text in (b"", b"a", b"abc", b"\x00\xff\n", b"xy" * 127 + b"z"):
            for count in (-GREATEST, -2, -1, 0, 1, 2, 3, 4, 254, 255, 256, GREATEST):
                taken = min(max(count, 0), len(text))
                self.gives("first", (text, count), text[:taken])
                self.gives("rest", (text, count), text[taken:])

    def test_at(self):
        for text in (b"", b"a", b"\x00\xff\n", b"xy" * 127 + b"z"):
            for offset in (-GREATEST, -2, -1, 0, 1, 2, 3, 254, 255, 256, GREATEST):
                self.gives("at", (text, offset), text[offset] if 0 <= offset < len(text) else -1)

    def test_every_byte_at(self):
        for byte in range(256):
            self.gives("at", (bytes([65, byte]), 1), byte)


if __name__ == "__main__":
    unittest.main()
