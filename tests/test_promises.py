"""The promises over many codes, made by a generator that begins at the same number each time."""

import random
import re
import unittest

from helper import SHOWN, SIZES, VERIFY, ask, asked_of, form_of, leads, load, shape

RANGES = {0: "flag", 1: "num -3 9", 2: "text 7"}
VALUES = {0: ("true", "false"), 1: ("0", "-7", "12"), 2: ('""', '"a\\x00\\"\\n b"', '"\xe9"')}
OPERATIONS = {
    "neg": ((1,), 1), "abs": ((1,), 1), "not": ((0,), 0), "len": ((2,), 1), "digits": ((1,), 2), "add": ((1, 1), 1),
    "sub": ((1, 1), 1), "mul": ((1, 1), 1), "div": ((1, 1), 1), "mod": ((1, 1), 1), "min": ((1, 1), 1),
    "max": ((1, 1), 1), "lt": ((1, 1), 0), "le": ((1, 1), 0), "and": ((0, 0), 0), "or": ((0, 0), 0), "join": ((2, 2), 2),
    "first": ((2, 1), 2), "rest": ((2, 1), 2), "at": ((2, 1), 1),
}
SILENT = ("push", "get", "op", "jump", "skip", "if", "set", "any", "pick", "go")


def pushed(chance, slots):
    if slots and chance.random() < 0.4:
        number = chance.randrange(len(slots))
        return f"get {number}", slots[number]
    kind = chance.randrange(3)
    return "push " + chance.choice(VALUES[kind]), kind


def fitting(stack):
    found = []
    for word, (taken, given) in OPERATIONS.items():
        if tuple(stack[:len(taken)]) == taken[::-1]:
            found.append((word, len(taken), given))
    return found


def made(chance, length):
    """Instructions that mostly fit the shape in which they are reached; often verified, not always."""
    written, seen = [], []
    slots, stack = [], []
    for spot in range(length):
        seen.append((list(slots), list(stack)))
        alike = [k for k, was in enumerate(seen) if was == (slots, stack)] + [spot + 1]
        roll = chance.random()
        if stack and fitting(stack) and roll < 0.4:
            word, count, given = chance.choice(fitting(stack))
            written.append(f"op {word}")
            stack = [given] + stack[count:]
        elif stack and stack[0] == 0 and roll < 0.6:
            stack = stack[1:]
            written.append(f"{'if' if not stack else 'skip'} {spot + chance.choice((1, 1, 1, 2))}")
        elif 0 < len(stack) <= 4 and roll < 0.75:
            written.append(f"send A -> B m{spot}({len(stack)})" + chance.choice(("", "[K]", "[K, L]")))
            stack = []
        elif len(stack) == 1 and stack[0] in slots and roll < 0.85:
            written.append(f"set {slots.index(stack[0])} {RANGES[stack[0]]}")
            stack = []
        elif stack and len(stack) < 9 and roll < 0.9:
            written.append(f"go {spot + 1}({', '.join(RANGES[kind] for kind in reversed(stack))})")
            slots, stack = stack[::-1], []
        elif not stack and roll < 0.2 and len(slots) < 30:
            written.append("any -1 5")
            slots = slots + [1]
        elif not stack and roll < 0.4 and len(slots) < 28:
            kinds = [chance.randrange(3) for k in range(chance.randrange(4))]
            ranges = ", ".join(RANGES[kind] for kind in kinds)
            back = [f"w{k}() {k}" for k, was in enumerate(seen) if was == (slots, stack)][:3]
            written.append(f"recv A <- B {{ {' , '.join([f'v({ranges})[K] {spot + 1}'] + back)} }}")
            slots = slots + kinds
        elif not stack and roll < 0.5:
            written.append("pick " + ", ".join(str(chance.choice(alike)) for k in range(2)) + f", {spot + 1}")
        elif roll < 0.55:
            written.append(f"jump {chance.choice((spot + 1, spot + 1, spot + 2))}")
        else:
            instruction, kind = pushed(chance, slots)
            written.append(instruction)
            stack = [kind] + stack
    while stack:
        written.append(f"send A -> B rest({min(4, len(stack))})")
        stack = stack[4:]
    return written + ["stop", "stop"]


def text_of(instructions):
    return "code Made for W\n" + "".join(instruction + " ;\n" for instruction in instructions)


def loosened(chance, text):
    """The same tokens with other blanks between them."""
    tokens = re.findall(r'"(?:[^"\\]|\\.)*"|->|<-|-?[0-9]+|[A-Za-z][A-Za-z0-9]*|[^\s]', text)
    return "".join(token + chance.choice((" ", "\n", "\t ", " # ; \" x\n")) for token in tokens)


def many(count, most):
    chance = random.Random(20261116)
    for turn in range(count):
        yield chance, made(chance, chance.randrange(1, most))


def verified(count, most):
    for chance, instructions in many(count, most):
        told = asked_of(text_of(instructions), VERIFY)[0]
        if told[0] == 1:
            yield chance, instructions, told


def asked_of_all(text, count):
    """Everything that can be asked of code."""
    spots = range(-1, count + 1)
    return asked_of(text, SHOWN, SIZES, VERIFY, *[shape(k) for k in spots], *[leads(k) for k in spots])


def after(instruction, slots, stack):
    """The shape behind an instruction that is not recv; it is taken for granted that nothing is missing."""
    word = instruction.split()[0]
    if word == "push":
        written = instruction.split(" ", 1)[1]
        kind = 2 if written[0] == '"' else 0 if written in ("true", "false") else 1
        return slots, [kind] + stack
    if word == "get":
        return slots, [slots[int(instruction.split()[1])]] + stack
    if word == "op":
        taken, given = OPERATIONS[instruction.split()[1]]
        assert tuple(stack[:len(taken)]) == taken[::-1]
        return slots, [given] + stack[len(taken):]
    if word in ("skip", "if"):
        assert stack[0] == 0
        return slots, stack[1:]
    if word == "set":
        assert stack == [slots[int(instruction.split()[1])]]
        return slots, []
    if word == "any":
        assert stack == []
        return slots + [1], []
    if word == "go":
        kinds = [("flag", "num", "text").index(found) for found in re.findall("flag|num|text", instruction)]
        assert stack == kinds[::-1]
        return kinds, []
    if word == "send":
        assert len(stack) == int(re.search(r"\((\d)\)", instruction).group(1))
        return slots, []
    assert word == "jump" or stack == []
    return slots, stack


def way_kinds(instruction, number):
    way = re.findall(r"\(([^)]*)\)", instruction)[number]
    return [("flag", "num", "text").index(found) for found in re.findall("flag|num|text", way)]


class Promises(unittest.TestCase):
    def test_enough_of_both(self):
        good = sum(1 for found in verified(300, 25))
        self.assertGreater(good, 60)
        self.assertLess(good, 300)

    def test_1_the_one_form_is_read_as_the_same_code(self):
        for chance, instructions in many(120, 20):
            loose = loosened(chance, text_of(instructions))
            form = form_of(loose)
            self.assertEqual(form_of(form), form)
            count = len(instructions)
            self.assertEqual(asked_of_all(loose, count), asked_of_all(form, count))

    def test_2_and_3_shapes_hold_along_every_way(self):
        for chance, instructions, told in verified(300, 25):
            count = len(instructions)
            answers = asked_of(text_of(instructions), *[shape(k) for k in range(count)], *[leads(k) for k in range(count)])
            self.walk(chance, instructions, answers[:count], [answer[1:] for answer in answers[count:]])

    def walk(self, chance, instructions, shapes, ways):
        for turn in range(6):
            spot, slots, stack = 0, [], []
            for step in range(40):
                self.assertEqual(shapes[spot], [1, len(slots)] + slots + [len(stack)] + stack)
                if not ways[spot]:
                    break
                number = chance.randrange(len(ways[spot]))
                if instructions[spot].startswith("recv"):
                    self.assertEqual(stack, [])
                    slots = slots + way_kinds(instructions[spot], number)
                else:
                    slots, stack = after(instructions[spot], slots, stack)
                spot = ways[spot][number]
                self.assertLess(spot, len(instructions))

    def test_3_the_most_of_all_shapes(self):
        for chance, instructions, told in verified(200, 25):
            shapes = asked_of(text_of(instructions), *[shape(k) for k in range(len(instructions))])
            known = [found for found in shapes if found != [-6]]
            slots = [found[1] for found in known]
            stacks = [found[2 + found[1]] for found in known]
            self.assertEqual(told, [1, len(known), max(stacks), max(slots)])

    def test_4_no_more_silent_instructions_than_spots(self):
        for chance, instructions, told in verified(200, 25):
            count = len(instructions)
            ways = [answer[1:] for answer in asked_of(text_of(instructions), *[leads(k) for k in range(count)])]
            shapes = asked_of(text_of(instructions), *[shape(k) for k in range(count)])
            # As many steps as there are spots, from all known spots at once: none is left.
            reached = {spot for spot in range(count) if shapes[spot] != [-6]}
            for step in range(count):
                silent = [spot for spot in reached if instructions[spot].split()[0] in SILENT]
                reached = {way for spot in silent for way in ways[spot]}
            self.assertFalse([spot for spot in reached if instructions[spot].split()[0] in SILENT])

    def test_4_the_fault_9_is_a_round(self):
        found = 0
        for chance, instructions in many(600, 12):
            told = asked_of(text_of(instructions), VERIFY)[0]
            if told[:2] == [0, 9]:
                found += 1
                count = len(instructions)
                ways = [answer[1:] for answer in asked_of(text_of(instructions), *[leads(k) for k in range(count)])]
                reached = {told[2]}
                back = False
                for step in range(count):
                    silent = [spot for spot in reached if instructions[spot].split()[0] in SILENT]
                    reached = {way for spot in silent for way in ways[spot]}
                    back = back or told[2] in reached
                self.assertTrue(back)
        self.assertGreater(found, 10)

    def test_6_spots_that_are_not_known_do_not_matter(self):
        unknown = 0
        for chance, instructions, told in verified(300, 25):
            # Whatever stands behind the last stop is never reached.
            longer = instructions + made(chance, 4)
            spots = range(len(longer))
            before = asked_of(text_of(longer), VERIFY, *[shape(k) for k in spots])
            self.assertEqual(before[0][0], 1)
            stopped = [longer[k] if before[k + 1] != [-6] else "stop" for k in spots]
            unknown += stopped != longer
            self.assertEqual(asked_of(text_of(stopped), VERIFY, *[shape(k) for k in spots]), before)
        self.assertGreater(unknown, 60)

    def test_7_refusals_between_change_nothing(self):
        for chance, instructions in many(60, 15):
            text = text_of(instructions)
            count = len(instructions)
            plain = asked_of_all(text, count)
            spots = range(-1, count + 1)
            questions = [SHOWN, SIZES, VERIFY] + [shape(k) for k in spots] + [leads(k) for k in spots]
            mixed = [load(text)]
            for question in questions:
                mixed.extend([question, chance.choice((shape(-1), leads(count), load("code"), [7], [11]))])
            self.assertEqual(ask(*mixed)[1::2], plain)


if __name__ == "__main__":
    unittest.main()
