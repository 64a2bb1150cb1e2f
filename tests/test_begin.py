"""A run's beginning and end: begin, and what load makes of a run."""

import unittest

from helper import (ASK, HEAD, SEND, SHOWN, SLOTS, STATUS, TOLD, VERIFY, ask, asked_of, begin, hear, load, messages_of,
                    run_of, sized, values_of)

OF_A_RUN = (STATUS, SEND, hear(""), hear("yes()"), hear("x" * 4097), SLOTS, TOLD)
DRAWS = HEAD + "any 0 9; any 0 9; any 0 9; stop;"
GREATEST = 10 ** 18


def drawn(text, numbers):
    return values_of(run_of(text, numbers, SLOTS)[0])


class Answers(unittest.TestCase):
    def test_what_status_would_answer_first(self):
        cases = (("stop;", 0), ("send a -> b c(0); stop;", 1), ("recv a <- b { c() 1 }; stop;", 2),
                 ("push 1; push 0; op div; send a -> b c(1); stop;", 3), ("jump 2; push 1; stop;", 0))
        for instructions, expected in cases:
            told = asked_of(HEAD + instructions, begin([]), STATUS)
            self.assertEqual(told[0], [expected], instructions)
            self.assertEqual(told[1][0], expected, instructions)

    def test_by_what_is_drawn(self):
        text = HEAD + "pick 1, 2, 3, 5; stop; send a -> b c(0); recv a <- b { c() 4 }; stop; push 0; push 0; op mod; " \
            "send a -> b c(1); stop;"
        for number in range(-8, 8):
            self.assertEqual(asked_of(text, begin([number])), [[number % 4]])


class Numbers(unittest.TestCase):
    def test_none(self):
        self.assertEqual(drawn(DRAWS, []), ["0", "0", "0"])
        self.assertEqual(drawn(HEAD + "any 3 9; any -5 5; pick 5, 3; any 7 7; stop; stop;", []), ["3", "-5"])

    def test_as_many_as_are_drawn(self):
        self.assertEqual(drawn(DRAWS, [4, 17, 25]), ["4", "7", "5"])

    def test_fewer(self):
        self.assertEqual(drawn(DRAWS, [4]), ["4", "0", "0"])
        self.assertEqual(drawn(DRAWS, [4, 7]), ["4", "7", "0"])

    def test_more(self):
        self.assertEqual(drawn(DRAWS, [1, 2, 3, 4, 5]), ["1", "2", "3"])
        self.assertEqual(drawn(DRAWS, list(range(2000))), ["0", "1", "2"])
        self.assertEqual(drawn(HEAD + "stop;", [5]), [])

    def test_below_0(self):
        self.assertEqual(drawn(DRAWS, [-1, -10, -11]), ["9", "0", "9"])
        self.assertEqual(drawn(HEAD + "any -7 -3; any -1 5; stop;", [-1, -8]), ["-3", "5"])

    def test_the_ends(self):
        for number in (GREATEST, -GREATEST, GREATEST - 1, 1 - GREATEST):
            self.assertEqual(drawn(HEAD + "any 3 9; any -9 10; stop;", [number, number]),
                             [str(3 + number % 7), str(-9 + number % 20)])
            self.assertEqual(run_of(HEAD + "pick 1, 2, 3; stop; stop; stop;", [number], STATUS),
                             [[0, 1 + number % 3, 1]])

    def test_2000_numbers_over_many_messages(self):
        text = HEAD + "any 0 1000; get 0; send a -> b c(1); go 0();"
        numbers = [(7 * k) % 1001 for k in range(2000)]
        told = run_of(text, numbers, *([SEND] * 390), TOLD)
        self.assertEqual(told[:-1], [sized(f"c({number})") for number in numbers[:390]])
        self.assertEqual(messages_of(told[-1]), [(1, f"c({number})") for number in numbers[:390]])

    def test_the_last_numbers_and_then_0(self):
        text = HEAD + "any 0 9; any 0 9; get 0; get 1; send a -> b c(2); go 0();"
        self.assertEqual(run_of(text, [1, 2, 3], SEND, SEND, SEND), [sized("c(1, 2)"), sized("c(3, 0)"), sized("c(0, 0)")])


class NotVerified(unittest.TestCase):
    def test_refused(self):
        for instructions in ("jump 9;", "push 1;", "push 1; stop;", "jump 0;", "get 0; stop;", "op add;"):
            for numbers in ([], [1], [GREATEST, -GREATEST]):
                told = asked_of(HEAD + instructions, VERIFY, begin(numbers), STATUS, VERIFY)
                self.assertEqual(told[0][0], 0)
                self.assertEqual(told[1:], [[-5], [-7], told[0]])

    def test_a_fault_at_a_spot_that_is_not_known_is_none(self):
        self.assertEqual(asked_of(HEAD + "stop; op add;", begin([])), [[0]])


class Again(unittest.TestCase):
    def test_in_the_place_of_the_first_run(self):
        told = asked_of(ASK, begin([13]), SEND, hear("yes()"), begin([8]), STATUS, SLOTS, TOLD, SEND, TOLD)
        self.assertEqual(told[3:7], [[1], [1, 8, 5] + sized("A") + sized("B") + sized("high()[K]"), [1] + sized("8"), [0]])
        self.assertEqual(messages_of(told[8]), [(1, "high()[K]")])

    def test_behind_a_run_that_failed(self):
        text = HEAD + "any 0 9; push 1; get 0; op div; set 0 num 0 9; stop;"
        self.assertEqual(asked_of(text, begin([0]), STATUS, begin([1]), STATUS, begin([10]), STATUS),
                         [[3], [3, 3, 3], [0], [0, 5, 5], [3], [3, 3, 3]])

    def test_numbers_left_over_are_gone(self):
        told = asked_of(DRAWS, begin([1, 2, 3, 4, 5, 6]), begin([9]), SLOTS)
        self.assertEqual(values_of(told[2]), ["9", "0", "0"])


class LoadsAndRuns(unittest.TestCase):
    def test_a_load_that_succeeds_ends_the_run(self):
        for text in (ASK, HEAD + "stop;", HEAD + "jump 9;"):
            for call in OF_A_RUN:
                self.assertEqual(asked_of(ASK, begin([13]), SEND, load(text), call)[2:], [[1], [-7]])

    def test_a_run_behind_it_begins_anew(self):
        told = asked_of(ASK, begin([13]), SEND, load(ASK), begin([]), STATUS, TOLD, SLOTS)
        self.assertEqual(told[3:], [[1], [1, 6, 6] + sized("A") + sized("B") + sized("low(0)"), [0], [1, 1, 48]])

    def test_a_load_that_fails_leaves_code_and_run(self):
        for text in ("", "code", "^", HEAD + "get 32;", HEAD + "send a -> a b(0);", HEAD + "stop;" * 700, " " * 4097):
            plain = asked_of(ASK, begin([13]), SEND, STATUS, SLOTS, TOLD, hear("no(1, true)[K]"), STATUS, TOLD, SHOWN)
            told = asked_of(ASK, begin([13]), load(text), SEND, load(text), STATUS, SLOTS, load(text), TOLD,
                            hear("no(1, true)[K]"), load(text), STATUS, TOLD, SHOWN)
            self.assertEqual([told[k][0] for k in (1, 3, 6, 9)], [0] * 4)
            self.assertEqual([told[k] for k in range(13) if k not in (1, 3, 6, 9)], plain)

    def test_asking_of_the_code_leaves_the_run(self):
        told = asked_of(ASK, begin([13]), SHOWN, [2], VERIFY, [4, 3], [5, 4], [4, 99], [5, -1], STATUS)
        self.assertEqual(told[-1], [1, 6, 6] + sized("A") + sized("B") + sized("low(3)"))


class NoCodeAndNoRun(unittest.TestCase):
    def test_no_code(self):
        for call in OF_A_RUN + (begin([]), begin([1, 2])):
            self.assertEqual(ask(call), [[-1]])
            self.assertEqual(ask(load("stop;"), call, call)[1:], [[-1], [-1]])

    def test_no_run(self):
        for call in OF_A_RUN:
            self.assertEqual(asked_of(ASK, call, begin([13]), call)[:2], [[-7], [1]])
            self.assertNotEqual(asked_of(ASK, call, begin([13]), call)[2], [-7])
            self.assertEqual(asked_of(HEAD + "jump 9;", begin([13]), call), [[-5], [-7]])


if __name__ == "__main__":
    unittest.main()
