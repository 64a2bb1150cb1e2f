"""Every silent instruction in a run, how many of them were done, and where a run fails."""

import unittest

from helper import ASK, HEAD, SEND, SLOTS, STATUS, TOLD, begin, hear, messages_of, raw, run_of, sized, values_of
from speakcode.machine import Call, Machine, answer_of


def stood(instructions, numbers=()):
    """What status answers at a stop or where the run has failed, and the slots there."""
    told = run_of(HEAD + instructions, numbers, STATUS, SLOTS)
    return told[0], values_of(told[1])


def sent(instructions, numbers=()):
    """The first message of a run, in one form."""
    told = run_of(HEAD + instructions, numbers, SEND)[0]
    return bytes(told[1:]).decode("latin-1")


class PushGetOp(unittest.TestCase):
    def test_push_of_each_kind(self):
        self.assertEqual(sent('push true; push -3; push "a\\x00"; push ""; send a -> b c(4); stop;'),
                         'c(true, -3, "a\\x00", "")')

    def test_get(self):
        self.assertEqual(sent("any 1 9; any 1 9; get 1; get 0; get 1; send a -> b c(3); stop;", [4, 5]), "c(6, 5, 6)")

    def test_the_slot_stays_as_it_is(self):
        self.assertEqual(stood("any 1 9; get 0; push 1; op add; go 5(num 0 99); get 0; get 0; go 8(num 0 99, num 0 99);"
                               "stop;", [4]), ([0, 8, 8], ["6", "6"]))

    def test_a_slot_beyond_nine(self):
        text = "any 0 99;" * 32 + "get 31; get 10; send a -> b c(2); stop;"
        self.assertEqual(sent(text, list(range(20, 52))), "c(51, 30)")

    def test_64_values_on_the_stack(self):
        self.assertEqual(sent("push 1;" * 64 + "op add;" * 63 + "send a -> b c(1); stop;"), "c(64)")

    def test_the_top_is_the_last_argument(self):
        self.assertEqual(sent("push 9; push 4; op sub; send a -> b c(1); stop;"), "c(5)")
        self.assertEqual(sent('push "ab"; push "cd"; op join; send a -> b c(1); stop;'), 'c("abcd")')

    def test_what_lies_below_stays(self):
        self.assertEqual(sent("push 7; push 9; push 4; op sub; send a -> b c(2); stop;"), "c(7, 5)")
        self.assertEqual(sent("push true; push 4; op neg; send a -> b c(2); stop;"), "c(true, -4)")


class Ways(unittest.TestCase):
    def test_jump(self):
        self.assertEqual(stood("jump 2; stop; jump 1;"), ([0, 1, 2], []))

    def test_jump_with_values_on_the_stack(self):
        self.assertEqual(sent("push 1; push 2; jump 4; stop; send a -> b c(2); stop;"), "c(1, 2)")

    def test_if(self):
        for truth, expected in (("true", 2), ("false", 3)):
            self.assertEqual(stood(f"push {truth}; if 3; stop; stop;"), ([0, expected, 2], []))

    def test_skip(self):
        text = "skip 6; push 1; send a -> b c(2); stop; send a -> b d(1); stop;"
        self.assertEqual(sent("push 8; push true; " + text), "c(8, 1)")
        self.assertEqual(sent("push 8; push false; " + text), "d(8)")

    def test_skip_without_values_below(self):
        self.assertEqual(stood("push true; skip 3; stop; stop;"), ([0, 2, 2], []))
        self.assertEqual(stood("push false; skip 3; stop; stop;"), ([0, 3, 2], []))

    def test_skip_leaves_what_lies_below(self):
        text = "any 0 1; push 5; push 6; get 0; push 0; op eq; skip 9; op add; jump 10; op sub; send a -> b c(1); stop;"
        self.assertEqual(sent(text, [0]), "c(11)")
        self.assertEqual(sent(text, [1]), "c(-1)")

    def test_backwards(self):
        self.assertEqual(stood("jump 2; stop; push true; if 1; jump 1;"), ([0, 1, 4], []))
        self.assertEqual(stood("jump 2; stop; push false; if 1; jump 1;"), ([0, 1, 3], []))

    def test_to_the_next_spot_both_ways(self):
        for truth in ("true", "false"):
            self.assertEqual(stood(f"push {truth}; if 2; stop;"), ([0, 2, 2], []))


class Sets(unittest.TestCase):
    def check(self, first, second, extent, fits):
        """A slot with the first value, set to the second."""
        instructions = f"push {first[0]}; go 2({first[1]}); push {second}; set 0 {extent}; stop;"
        if fits:
            self.assertEqual(stood(instructions), ([0, 4, 4], [second]))
        else:
            self.assertEqual(stood(instructions), ([3, 3, 3], [first[0]]))

    def test_numbers(self):
        first = ("5", "num 5 5")
        for second, extent in (("3", "num 3 9"), ("9", "num 3 9"), ("-1", "num -1 -1"), ("0", "num -5 5")):
            self.check(first, second, extent, True)
        for second, extent in (("2", "num 3 9"), ("10", "num 3 9"), ("0", "num -1 -1"), ("-2", "num -1 -1")):
            self.check(first, second, extent, False)

    def test_numbers_at_the_ends_of_what_can_be_written(self):
        first = ("5", "num 5 5")
        extent = "num -1000000000 1000000000"
        self.check(first, "1000000000", extent, True)
        self.check(first, "-1000000000", extent, True)
        for word in ("add", "sub"):
            self.assertEqual(stood(f"any 5 5; push {'-' if word == 'sub' else ''}1000000000; push 1; op {word};"
                                   f"set 0 {extent}; stop;"), ([3, 4, 4], ["5"]))

    def test_texts(self):
        first = ('"abc"', "text 3")
        for second, extent in (('""', "text 0"), ('"abcd"', "text 4"), ('"ab"', "text 4"), ('"\\n\\""', "text 2"),
                               ('"' + "z" * 255 + '"', "text 255")):
            self.check(first, second, extent, True)
        for second, extent in (('"a"', "text 0"), ('"abcde"', "text 4"), ('"' + "z" * 255 + '"', "text 254"),
                               ('"\\n\\""', "text 1")):
            self.check(first, second, extent, False)

    def test_truths(self):
        for first in ("true", "false"):
            for second in ("true", "false"):
                self.check((first, "flag"), second, "flag", True)

    def test_the_slot_of_its_number_alone(self):
        self.assertEqual(stood("any 0 9; any 0 9; any 0 9; push 50; set 1 num 0 99; stop;", [1, 2, 3]),
                         ([0, 5, 5], ["1", "50", "3"]))


class Draws(unittest.TestCase):
    def test_any(self):
        for number in list(range(-25, 25)) + [10 ** 18, -10 ** 18]:
            self.assertEqual(stood("any -3 4; stop;", [number]), ([0, 1, 1], [str(-3 + number % 8)]))

    def test_any_of_one_number(self):
        for number in (-1, 0, 1, 10 ** 18):
            self.assertEqual(stood("any 7 7; stop;", [number]), ([0, 1, 1], ["7"]))

    def test_the_widest(self):
        text = "any -1000000000 1000000000; stop;"
        cases = ((0, -10 ** 9), (2 * 10 ** 9, 10 ** 9), (2 * 10 ** 9 + 1, -10 ** 9), (-1, 10 ** 9), (10 ** 9, 0))
        for number, expected in cases:
            self.assertEqual(stood(text, [number]), ([0, 1, 1], [str(expected)]))

    def test_slots_behind_the_others(self):
        self.assertEqual(stood("any 0 9; any 10 19; any 20 29; stop;", [1, 2, 3]), ([0, 3, 3], ["1", "12", "23"]))

    def test_pick(self):
        spots = "16, 1, 2, 3, 4, 5, 6, 7, 8, 9, 10, 11, 12, 13, 14, 15"
        for number in list(range(-20, 36)) + [10 ** 18, -10 ** 18]:
            told = stood(f"pick {spots};" + "stop;" * 16, [number])
            self.assertEqual(told, ([0, [16, *range(1, 16)][number % 16], 1], []))

    def test_pick_of_one_draws_too(self):
        self.assertEqual(stood("pick 1; any 0 9; stop;", [3, 4]), ([0, 2, 2], ["4"]))

    def test_pick_of_the_same_spot_twice(self):
        for number in range(6):
            self.assertEqual(stood("pick 1, 2, 1; stop; stop;", [number])[0], [0, (1, 2, 1)[number % 3], 1])

    def test_other_instructions_draw_nothing(self):
        text = "push 1; push 2; op add; go 4(num 0 9); push true; if 6; push false; skip 8; push 4; set 0 num 0 9;" \
            "jump 11; send a -> b c(0); any 0 9; recv a <- b { d() 14 }; any 0 9; stop;"
        told = run_of(HEAD + text, [6, 7], SEND, hear("d()"), SLOTS, STATUS)
        self.assertEqual(values_of(told[2]), ["4", "6", "7"])
        self.assertEqual(told[3], [0, 15, 13])


class Goes(unittest.TestCase):
    def test_none(self):
        self.assertEqual(stood("any 0 9; any 0 9; go 3(); stop;"), ([0, 3, 3], []))

    def test_one(self):
        self.assertEqual(stood("any 0 9; any 0 9; get 1; go 5(num 0 9); stop; stop;", [3, 4]), ([0, 5, 4], ["4"]))

    def test_several_in_order(self):
        self.assertEqual(stood('push 1; push true; push "x"; push 2; go 5(num 1 1, flag, text 1, num 2 2); stop;'),
                         ([0, 5, 5], ["1", "true", '"x"', "2"]))

    def test_eight(self):
        text = "".join(f"push {k};" for k in range(8)) + f"go 9({', '.join(f'num {k} {k}' for k in range(8))}); stop;"
        self.assertEqual(stood(text), ([0, 9, 9], [str(k) for k in range(8)]))

    def test_any_that_does_not_fit(self):
        for wrong in range(4):
            values = [9 if k == wrong else k for k in range(4)]
            text = "any 0 9;" + "".join(f"push {k};" for k in values)
            self.assertEqual(stood(text + "go 6(num 0 0, num 1 1, num 2 2, num 3 3); stop;", [7]), ([3, 5, 5], ["7"]))

    def test_the_ends_of_a_range(self):
        for number, fits in ((-4, False), (-3, True), (5, True), (6, False)):
            told = stood(f"push {number}; go 2(num -3 5); stop;")
            self.assertEqual(told, ([0, 2, 2], [str(number)]) if fits else ([3, 1, 1], []))
        for size, fits in ((2, True), (3, True), (4, False)):
            told = stood(f'push "{"q" * size}"; go 2(text 3); stop;')
            self.assertEqual(told, ([0, 2, 2], [f'"{"q" * size}"']) if fits else ([3, 1, 1], []))

    def test_numbers_beyond_what_can_be_written(self):
        self.assertEqual(stood("push 1000000000; push 1; op add; go 4(num -1000000000 1000000000); stop;"), ([3, 3, 3], []))

    def test_the_slots_in_order_of_the_ranges_and_not_of_the_top(self):
        self.assertEqual(stood("push 1; push 20; go 3(num 0 9, num 10 99); stop;"), ([0, 3, 3], ["1", "20"]))
        self.assertEqual(stood("push 1; push 20; go 3(num 10 99, num 0 9); stop;"), ([3, 2, 2], []))


class Counts(unittest.TestCase):
    def test_none(self):
        for instruction in ("stop;", "send a -> b c(0); stop;", "recv a <- b { c() 1 }; stop;"):
            self.assertEqual(run_of(HEAD + instruction, [], STATUS)[0][1:3], [0, 0])

    def test_over_several_messages(self):
        text = HEAD + "any 0 9; send a -> b c(0); push 1; push 2; send a -> b d(2); recv a <- b { e() 6 , f() 7 };" \
            "jump 7; pick 8; stop;"
        told = run_of(text, [], STATUS, SEND, STATUS, SEND, STATUS, hear("e()"), STATUS)
        self.assertEqual([answer[:3] for answer in told[::2]], [[1, 1, 1], [1, 4, 3], [2, 5, 3], [0, 8, 5]])
        told = run_of(text, [], SEND, SEND, hear("f()"), STATUS)
        self.assertEqual(told[3], [0, 8, 4])

    def test_rounds(self):
        text = HEAD + "jump 1; send a -> b c(0); push true; if 1; jump 0;"
        told = run_of(text, [], *([STATUS, SEND] * 6))
        self.assertEqual([answer[1:3] for answer in told[::2]], [[1, 1 + 4 * k] for k in range(6)])

    def test_anew_in_every_run(self):
        self.assertEqual(run_of(ASK, [13], STATUS, SEND, begin([13]), STATUS)[3][:3], [1, 6, 6])


class Failures(unittest.TestCase):
    CODE = HEAD + "any 0 9; send a -> b c(0); recv a <- b { d(num 0 9, text 3) 3 }; push 100; get 1; op div;" \
        "set 0 num 50 99; get 2; go 9(text 2); stop;"

    def test_it_stands_where_it_stood(self):
        cases = (('d(0, "ab")', [3, 5, 3], ["4", "0", '"ab"']),
                 ('d(1, "ab")', [3, 6, 4], ["4", "1", '"ab"']),
                 ('d(2, "abc")', [3, 8, 6], ["50", "2", '"abc"']))
        for message, status, slots in cases:
            told = run_of(self.CODE, [4], SEND, hear(message), STATUS, SLOTS, TOLD)
            self.assertEqual(told[1:3], [[0], status])
            self.assertEqual(values_of(told[3]), slots)
            self.assertEqual(messages_of(told[4]), [(1, "c()"), (2, message)])

    def test_it_does_not_fail_where_all_fits(self):
        told = run_of(self.CODE, [4], SEND, hear('d(2, "ab")'), STATUS, SLOTS)
        self.assertEqual([told[2], values_of(told[3])], [[0, 9, 7], ['"ab"']])

    def test_send_and_hear_are_refused_and_it_stands_there_on(self):
        for message in ('d(0, "ab")', 'd(1, "ab")', 'd(2, "abc")'):
            questions = [STATUS, SLOTS, TOLD]
            told = run_of(self.CODE, [4], SEND, hear(message), *questions, SEND, hear(message), hear("("),
                          hear("x" * 4097), SEND, *questions)
            self.assertEqual(told[5:10], [[-8]] * 5)
            self.assertEqual(told[10:], told[2:5])

    def test_at_the_first_spot_after_the_beginning(self):
        told = run_of(HEAD + "push 1; go 2(num 2 2); stop;", [], STATUS, SLOTS, TOLD, SEND, hear("c()"))
        self.assertEqual(told, [[3, 1, 1], [0], [0], [-8], [-8]])

    def test_behind_a_message_that_was_sent(self):
        told = run_of(HEAD + "push 1; send a -> b c(1); push 1; push 0; op mod; go 6(num 0 9); stop;", [], SEND, STATUS, TOLD)
        self.assertEqual(told[:2], [sized("c(1)"), [3, 4, 3]])
        self.assertEqual(messages_of(told[2]), [(1, "c(1)")])

    def test_the_stack_as_it_was(self):
        # No call tells the stack where a run has failed, so one looks at the run itself.
        cases = (("push 9; push 5; push 0; op div; op add; go 6(num 0 9); stop;", [9, 5, 0]),
                 ("push 9; push 5; push 0; op sub; go 5(num 0 9, num 0 4); stop;", [9, 5]),
                 ("any 0 9; push 12; set 0 num 0 9; stop;", [12]),
                 ("push 1; push 2; push 3; go 4(num 1 1, num 3 3, num 3 3); stop;", [1, 2, 3]))
        for instructions, stack in cases:
            machine = Machine()
            for number, row in ((0, raw(HEAD + instructions)), (6, [])):
                answer = answer_of(machine, Call(number, row, 0))
            self.assertEqual(answer, [3], instructions)
            self.assertEqual([value.content for value in machine.held.run.stack], stack)


if __name__ == "__main__":
    unittest.main()
