"""The promises over many runs of many codes, each run held beside a plain model of it."""

import re
import unittest

from helper import SEND, SLOTS, STATUS, TOLD, VERIFY, ask, asked_of, begin, hear, load, shape, sized, values_of
from speakcode.machine import Machine, answer_of, call_at
from test_promises import made, text_of, verified
from test_results import form

KINDS = (bool, int, bytes)
GREATEST = 10 ** 18
RESULTS = {
    "neg": lambda x: -x, "abs": abs, "not": lambda x: not x, "len": len, "digits": lambda x: str(x).encode(),
    "add": lambda x, y: x + y, "sub": lambda x, y: x - y, "mul": lambda x, y: x * y,
    "div": lambda x, y: x // y if y > 0 else None, "mod": lambda x, y: x % y if y > 0 else None,
    "min": min, "max": max, "lt": lambda x, y: x < y, "le": lambda x, y: x <= y, "eq": lambda x, y: x == y,
    "and": lambda x, y: x and y, "or": lambda x, y: x or y, "join": lambda x, y: x + y,
    "first": lambda x, y: x[:max(y, 0)], "rest": lambda x, y: x[max(y, 0):],
    "at": lambda x, y: x[y] if 0 <= y < len(x) else -1,
}
ONE_ARGUMENT = ("neg", "abs", "not", "len", "digits")


def value_of(written):
    if written in ("true", "false"):
        return written == "true"
    if written[0] != '"':
        return int(written)
    return re.sub(rb'\\(x..|.)', lambda m: bytes([told_byte(m.group(1))]), written[1:-1].encode("latin-1"))


def told_byte(escaped):
    return int(escaped[1:], 16) if escaped[:1] == b"x" else {b"n": 10}.get(escaped, escaped[0])


def ranges_of(written):
    return re.findall(r"flag|num -?\d+ -?\d+|text \d+", written)


def fits(value, extent):
    words = extent.split()
    if words[0] == "flag":
        return type(value) is bool
    if words[0] == "num":
        return type(value) is int and int(words[1]) <= value <= int(words[2])
    return type(value) is bytes and len(value) <= int(words[1])


def ways_of(instruction):
    """Each way's label, ranges, handed seats and spot."""
    found = re.findall(r"(\w+)\(([^)]*)\)(\[[^\]]*\])? (\d+)", instruction)
    return [(label, ranges_of(ranges), handed, int(spot)) for label, ranges, handed, spot in found]


def message_of(label, values, handed):
    return f"{label}({', '.join(form(value) for value in values)}){handed}"


class Model:
    """A run, as the document tells it."""

    def __init__(self, instructions, numbers):
        self.instructions = instructions
        self.numbers = list(numbers)
        self.spot, self.silent, self.failed = 0, 0, False
        self.slots, self.stack, self.told = [], [], []
        self.most_silent = 0
        self.go_on()

    def word(self):
        return self.instructions[self.spot].split()[0]

    def standing(self):
        return 3 if self.failed else {"stop": 0, "send": 1, "recv": 2}[self.word()]

    def go_on(self):
        before = self.silent
        while not self.failed and self.word() not in ("stop", "send", "recv"):
            self.step(self.instructions[self.spot])
        self.most_silent = max(self.most_silent, self.silent - before)

    def step(self, instruction):
        word, *rest = instruction.split(" ", 1)
        spot = getattr(self, "do_" + word)(*rest)
        if spot is None:
            self.failed = True
        else:
            self.spot = spot
            self.silent += 1

    def draw(self):
        return self.numbers.pop(0) if self.numbers else 0

    def do_push(self, written):
        self.stack.append(value_of(written))
        return self.spot + 1

    def do_get(self, written):
        self.stack.append(self.slots[int(written)])
        return self.spot + 1

    def do_op(self, word):
        count = 1 if word in ONE_ARGUMENT else 2
        result = RESULTS[word](*self.stack[-count:])
        if result is None or (type(result) is int and abs(result) > GREATEST) or (
                type(result) is bytes and len(result) > 255):
            return None
        self.stack[-count:] = [result]
        return self.spot + 1

    def do_jump(self, written):
        return int(written)

    def do_if(self, written):
        return self.spot + 1 if self.stack.pop() else int(written)

    do_skip = do_if

    def do_set(self, written):
        number, extent = written.split(" ", 1)
        if not fits(self.stack[-1], extent):
            return None
        self.slots[int(number)] = self.stack.pop()
        return self.spot + 1

    def do_any(self, written):
        low, high = written.split()
        self.slots.append(int(low) + self.draw() % (int(high) - int(low) + 1))
        return self.spot + 1

    def do_pick(self, written):
        spots = [int(spot) for spot in written.split(", ")]
        return spots[self.draw() % len(spots)]

    def do_go(self, written):
        ranges = ranges_of(written)
        if not all(fits(value, extent) for value, extent in zip(self.stack, ranges, strict=True)):
            return None
        self.slots, self.stack = self.stack, []
        return int(written.split("(")[0])

    def message(self):
        label, count, handed = re.search(r"(\w+)\((\d)\)(.*)", self.instructions[self.spot]).groups()
        assert len(self.stack) == int(count)
        return message_of(label, self.stack, handed)

    def status(self):
        told = [self.standing(), self.spot, self.silent]
        if told[0] == 1:
            told += sized("A") + sized("B") + sized(self.message())
        if told[0] == 2:
            ways = ways_of(self.instructions[self.spot])
            told += sized("A") + sized("B") + [len(ways)]
            for way in ways:
                told += sized(way[0])
        return told

    def send(self):
        if self.standing() != 1:
            return [-8]
        sent = self.message()
        self.told.append((1, sent))
        self.stack = []
        self.spot += 1
        self.go_on()
        return sized(sent)

    def hear(self, label, values, handed):
        if self.standing() != 2:
            return [-8]
        for number, (own, ranges, seats, spot) in enumerate(ways_of(self.instructions[self.spot])):
            if own == label:
                if len(ranges) != len(values):
                    return [-12]
                if not all(map(fits, values, ranges)):
                    return [-13]
                if seats != handed:
                    return [-14]
                self.told.append((2, message_of(label, values, handed)))
                self.slots = self.slots + list(values)
                self.spot = spot
                self.go_on()
                return [number]
        return [-11]

    def slots_told(self):
        told = [len(self.slots)]
        for value in self.slots:
            told += sized(form(value))
        return told

    def messages_told(self):
        told = [len(self.told)]
        for direction, written in self.told:
            told += [direction] + sized(written)
        return told


def fitting_value(chance, extent):
    words = extent.split()
    if words[0] == "flag":
        return chance.random() < 0.5
    if words[0] == "num":
        return chance.randint(int(words[1]), int(words[2]))
    return bytes(chance.randrange(256) for k in range(chance.randint(0, int(words[1]))))


def some_message(chance, instruction, wrong):
    """A message for a recv, right or with something wrong about it."""
    ways = ways_of(instruction) or [("v", [], "", 0)]
    label, ranges, handed, spot = chance.choice(ways)
    values = [fitting_value(chance, extent) for extent in ranges]
    if chance.random() < wrong:
        fault = chance.choice((0, 1, 3, 2, 2, 2) if values else (0, 1, 3))
        label = "zz" if fault == 0 else label
        values = values + [True] if fault == 1 else values
        values = [chance.choice((99, -99, b"12345678", False)) for value in values] if fault == 2 else values
        handed = chance.choice(("", "[K]", "[L]", "[K, L]")) if fault == 3 else handed
    return label, values, handed


def some_run(chance, instructions, wrong, steps):
    """Calls of one run with the answers that are due, its begin among them, and the model at its end."""
    numbers = [chance.choice((chance.randint(-9, 9), chance.randint(-GREATEST, GREATEST)))
               for k in range(chance.randrange(12))]
    model = Model(instructions, numbers)
    calls, due = [begin(numbers)], [[model.standing()]]
    for step in range(steps):
        calls += [STATUS, SLOTS, TOLD]
        due += [model.status(), model.slots_told(), model.messages_told()]
        if model.standing() in (0, 3) and step > 1:
            break
        if (model.standing() == 1) != (chance.random() < wrong):
            calls.append(SEND)
            due.append(model.send())
        else:
            message = some_message(chance, instructions[model.spot], wrong)
            calls.append(hear(message_of(*message)))
            due.append(model.hear(*message))
    return calls, due, model


def spots_and_slots(text, calls):
    """At every status of a run: the spot, and the slots that are told there."""
    told = asked_of(text, *calls)
    for place, call in enumerate(calls):
        if call == STATUS:
            yield told[place], values_of(told[place + 1])


class RunPromises(unittest.TestCase):
    def test_runs_are_as_the_model_has_them(self):
        ends = {0: 0, 1: 0, 2: 0, 3: 0}
        refused = {-8: 0, -11: 0, -12: 0, -13: 0, -14: 0}
        for chance, instructions, told in verified(300, 25):
            for wrong in (0, 0.4):
                calls, due, model = some_run(chance, instructions, wrong, 16)
                self.assertEqual(asked_of(text_of(instructions), *calls), due, instructions)
                ends[model.standing()] += 1
                for answer in due:
                    if answer[0] in refused:
                        refused[answer[0]] += 1
        self.assertGreater(min(ends[0], ends[2], ends[3]), 10, ends)
        self.assertGreater(min(refused.values()), 10, refused)

    def test_2_a_run_fails_only_where_something_can_fail(self):
        for chance, instructions, told in verified(300, 25):
            calls, due, model = some_run(chance, instructions, 0, 12)
            for answer in asked_of(text_of(instructions), *calls)[1::4]:
                if answer[0] == 3:
                    self.assertIn(instructions[answer[1]].split()[0], ("op", "set", "go"))

    def test_3_slots_are_of_the_kinds_that_shape_tells(self):
        seen = 0
        for chance, instructions, told in verified(300, 25):
            text = text_of(instructions)
            calls, due, model = some_run(chance, instructions, 0, 12)
            for status, values in spots_and_slots(text, calls):
                kinds = [KINDS.index(type(value_of(value))) for value in values]
                known = asked_of(text, shape(status[1]))[0]
                self.assertEqual(known[:2 + len(kinds)], [1, len(kinds)] + kinds)
                seen += len(kinds)
                if status[0] == 0 or status[0] == 2:
                    self.assertEqual(known[2 + len(kinds):], [0])
        self.assertGreater(seen, 300)

    def test_3_what_is_sent_is_of_the_kinds_that_shape_tells(self):
        seen = 0
        for chance, instructions, told in verified(300, 25):
            text = text_of(instructions)
            calls, due, model = some_run(chance, instructions, 0, 12)
            for status, values in spots_and_slots(text, calls):
                if status[0] == 1:
                    known = asked_of(text, shape(status[1]))[0]
                    written = bytes(status[8:]).decode("latin-1")
                    sent = re.findall(r'"(?:[^"\\]|\\.)*"|-?\d+|true|false', written.split("(", 1)[1])
                    kinds = [KINDS.index(type(value_of(value))) for value in sent]
                    self.assertEqual(known[2 + len(values):], [len(kinds)] + kinds[::-1])
                    seen += len(kinds)
        self.assertGreater(seen, 100)

    def test_3_the_stack_itself(self):
        # Only what is sent of a stack is told, so one looks at the run below the calls.
        seen = 0
        for chance, instructions, told in verified(300, 25):
            machine = Machine()
            calls, due, model = some_run(chance, instructions, 0, 12)
            for call in [load(text_of(instructions))] + calls:
                answer_of(machine, call_at(call, 0))
                run = machine.held.run
                if run is not None:
                    kinds = [("truth", "number", "text").index(value.kind) for value in reversed(run.stack)]
                    known = answer_of(machine, call_at(shape(run.spot), 0))
                    self.assertEqual(known[2 + known[1]:], [len(kinds)] + kinds)
                    seen += len(run.messages)
            self.assertEqual([value.content for value in run.stack],
                             [list(value) if type(value) is bytes else value for value in model.stack])
        self.assertGreater(seen, 1000)

    def test_4_no_more_silent_instructions_than_spots(self):
        for chance, instructions, told in verified(300, 25):
            calls, due, model = some_run(chance, instructions, 0, 12)
            counts = [answer[2] for answer in asked_of(text_of(instructions), *calls)[1::4]]
            for before, after in zip([0] + counts, counts):
                self.assertLessEqual(before, after)
                self.assertLessEqual(after - before, len(instructions))

    def test_5_the_same_again(self):
        for chance, instructions, told in verified(150, 25):
            calls, due, model = some_run(chance, instructions, 0.2, 12)
            other = some_run(chance, instructions, 0.2, 3)[0]
            answers = asked_of(text_of(instructions), *calls, *other, *calls)
            self.assertEqual(answers[:len(calls)], answers[len(calls) + len(other):])
            self.assertEqual(asked_of(text_of(instructions), *calls), answers[:len(calls)])

    def test_6_spots_that_are_not_known_do_not_matter(self):
        unknown = 0
        for chance, instructions, told in verified(300, 25):
            longer = instructions + made(chance, 4)
            spots = range(len(longer))
            shapes = asked_of(text_of(longer), *[shape(k) for k in spots])
            stopped = [longer[k] if shapes[k] != [-6] else "stop" for k in spots]
            unknown += stopped != longer
            calls, due, model = some_run(chance, longer, 0.2, 12)
            questions = [VERIFY] + [shape(k) for k in spots] + calls
            self.assertEqual(asked_of(text_of(stopped), *questions), asked_of(text_of(longer), *questions))
        self.assertGreater(unknown, 60)

    def test_7_refused_calls_change_no_later_answer(self):
        refusals = 0
        for chance, instructions, told in verified(300, 25):
            calls, due, model = some_run(chance, instructions, 0.5, 16)
            kept = [place for place in range(len(calls)) if due[place][0] >= 0]
            refusals += len(calls) - len(kept)
            answers = asked_of(text_of(instructions), *calls)
            self.assertEqual([answers[place] for place in kept],
                             asked_of(text_of(instructions), *[calls[place] for place in kept]))
        self.assertGreater(refusals, 300)

    def test_7_any_refused_call_between_any_two(self):
        for chance, instructions, told in verified(100, 20):
            text = text_of(instructions)
            calls, due, model = some_run(chance, instructions, 0, 8)
            mixed = [load(text)]
            for call, answer in zip(calls, due):
                mixed += [call, chance.choice((shape(-1), [5, 9999], load("code"), load(text[:-3]), hear("9"), hear("zz()")))]
            self.assertEqual(ask(*mixed)[1::2], due)


if __name__ == "__main__":
    unittest.main()
