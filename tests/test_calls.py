import unittest

from helper import (ASK, HEAD, SEND, SHOWN, SIZES, SLOTS, STATUS, TOLD, VERIFY, ask, asked_of, begin, hear, leads, load,
                    raw, shape)
from speakcode.machine import answers

WITHOUT_LOAD = (SHOWN, SIZES, VERIFY, shape(0), shape(-10 ** 18), leads(0), leads(10 ** 18), begin([]),
                begin([5, -10 ** 18, 0]), STATUS, SEND, hear(""), hear("yes()"), SLOTS, TOLD)
OF_A_RUN = (STATUS, SEND, hear(""), hear("yes()"), SLOTS, TOLD)
FAULTS = ("", "code", HEAD, HEAD + "get 32;", HEAD + "send a -> a b(0);", "^", HEAD + "stop;" * 700, " " * 4097)


class Sizes(unittest.TestCase):
    def test_sizes(self):
        self.assertEqual(asked_of(ASK, SIZES), [[14, 3, 65, 115, 107, 1, 65]])
        self.assertEqual(asked_of("code T for Worker1 stop;", SIZES), [[1, 1, 84, 7] + raw("Worker1")])

    def test_longest_names_and_most_instructions(self):
        title = "abcdefghijklmnop"
        worker = "QRSTUVWXYZ012345"
        self.assertEqual(asked_of(f"code {title} for {worker} " + "stop;" * 579, SIZES),
                         [[579, 16] + raw(title) + [16] + raw(worker)])


class NoCode(unittest.TestCase):
    def test_every_call_but_load(self):
        for call in WITHOUT_LOAD:
            self.assertEqual(ask(call), [[-1]], call)

    def test_several_and_then_load(self):
        told = ask(*WITHOUT_LOAD, load(ASK), VERIFY)
        self.assertEqual(told, [[-1]] * len(WITHOUT_LOAD) + [[1], [1, 14, 2, 3]])

    def test_a_load_that_fails_holds_nothing(self):
        for text in FAULTS:
            told = ask(load(text), *WITHOUT_LOAD)
            self.assertEqual(told[0][0], 0)
            self.assertEqual(told[1:], [[-1]] * len(WITHOUT_LOAD))

    def test_numbers_of_a_refused_call_are_no_calls(self):
        self.assertEqual(ask(begin([0, 1, 2, 3, 11]), hear(bytes([0, 1, 2, 3])), shape(3), leads(2), SHOWN), [[-1]] * 5)


class NoRun(unittest.TestCase):
    def test_calls_of_a_run(self):
        for call in OF_A_RUN:
            self.assertEqual(asked_of(ASK, call, SIZES), [[-7], [14, 3, 65, 115, 107, 1, 65]])
            self.assertEqual(asked_of(HEAD + "jump 9;", call, VERIFY), [[-7], [0, 1, 0]])


class Loads(unittest.TestCase):
    def test_a_second_load_in_the_place_of_the_first(self):
        told = ask(load(ASK), load("code T for W push 1; stop;"), SHOWN, SIZES, VERIFY, shape(2), leads(2), leads(0))
        form = raw("code T for W\npush 1 ;\nstop ;\n")
        self.assertEqual(told, [[1], [1], [len(form)] + form, [2, 1, 84, 1, 87], [0, 6, 1], [-2], [-2], [1, 1]])

    def test_a_load_that_fails_behind_one_that_succeeded(self):
        questions = [SHOWN, SIZES, VERIFY, shape(3), shape(10), leads(4), leads(14)]
        before = ask(load(ASK), *questions)
        for text in FAULTS:
            after = ask(load(ASK), load(text), *questions)
            self.assertEqual(after[1][0], 0)
            self.assertEqual(after[2:], before[1:])

    def test_code_that_is_not_verified_is_held(self):
        told = ask(load(HEAD + "op add;"), SHOWN, VERIFY)
        form = raw("code T for W\nop add ;\n")
        self.assertEqual(told, [[1], [len(form)] + form, [0, 2, 0]])

    def test_texts_beyond_4096_bytes_are_taken_in(self):
        told = ask(load("x" * 8192), load(ASK), load(" " * 4097), SIZES)
        self.assertEqual(told, [[0, 1, 4096], [1], [0, 1, 4096], [14, 3, 65, 115, 107, 1, 65]])


class Refusals(unittest.TestCase):
    def test_a_refused_call_leaves_everything_as_it_was(self):
        questions = [SHOWN, SIZES, VERIFY] + [shape(spot) for spot in range(14)] + [leads(spot) for spot in range(14)]
        refused = [shape(-1), shape(14), leads(-1), leads(14), shape(10 ** 18), leads(-10 ** 18)] + list(OF_A_RUN)
        for text in (ASK, HEAD + "jump 9;", HEAD + "jump 2; stop; stop;"):
            plain = asked_of(text, *questions)
            mixed = []
            for question in questions:
                mixed.extend(refused + [question])
            told = asked_of(text, *mixed)
            self.assertEqual(told[len(refused)::len(refused) + 1], plain)


class Lists(unittest.TestCase):
    def test_each_answer_with_its_length(self):
        text = "code T for W stop;"
        calls = [3] + load(text) + [3, 1, 2, 4, 0, 4, 1, 5, 0] + load("^")
        form = raw("code T for W\nstop ;\n")
        expected = [1, -1, 1, 1, 4, 1, 1, 0, 0, len(form) + 1, len(form)] + form
        expected += [5, 1, 1, 84, 1, 87, 3, 1, 0, 0, 1, -2, 1, 0, 3, 0, 2, 0]
        self.assertEqual(answers(calls), expected)

    def test_each_answer_of_a_run_with_its_length(self):
        calls = [7] + load("code T for W any 0 9; get 0; send a -> b c(1); stop;") + [7] + begin([4]) + [7, 8, 8, 7, 10, 11]
        calls += hear("d()")
        expected = [1, -1, 1, 1, 1, -7, 1, 1, 12, 1, 2, 2, 1, 97, 1, 98, 4, 99, 40, 52, 41, 5, 4, 99, 40, 52, 41]
        expected += [1, -8, 3, 0, 3, 2, 3, 1, 1, 52, 7, 1, 1, 4, 99, 40, 52, 41, 1, -8]
        self.assertEqual(answers(calls), expected)

    def test_a_list_with_a_run_stays_and_answers_the_same_again(self):
        calls = load(ASK) + begin([13, -5, 10 ** 18]) + [7, 8, 7] + hear("no(") + hear("no(3, true)[K]") + [10, 11, 8]
        calls += begin([8]) + [7, 8] + hear("yes()") + [7, 10, 11] + load("x") + [7, 10, 11] + load(ASK) + [7, 8]
        copy = list(calls)
        first = answers(calls)
        self.assertEqual(calls, copy)
        kept = list(first)
        self.assertEqual(answers(calls), first)
        first.clear()
        answers(load(ASK) + begin([1, 2, 3]) + [8] + hear("yes()"))
        self.assertEqual(answers(calls), kept)
        for number in kept:
            self.assertIs(type(number), int)

    def test_no_run_is_kept(self):
        answers(load(ASK) + begin([13]) + [8])
        self.assertEqual(answers(load(ASK) + [7, 10, 11]), [1, 1, 1, -7, 1, -7, 1, -7])
        self.assertEqual(answers([7]), [1, -1])

    def test_numbers_of_a_begin_are_no_calls(self):
        self.assertEqual(asked_of(HEAD + "any 0 9; stop;", begin([7, 8, 9, 0, 1]), SLOTS), [[0], [1, 1, 55]])
        self.assertEqual(asked_of(ASK, begin([13]), SEND, hear(bytes([7, 8, 9, 10, 11])), STATUS)[2:],
                         [[-9], [2, 9, 7, 1, 65, 1, 66, 2, 3, 121, 101, 115, 2, 110, 111]])

    def test_the_list_is_the_same_afterwards(self):
        calls = [3] + begin([1, 2, 3]) + load(ASK) + [1, 2, 3, 4, 3, 5, 4] + load("nothing") + hear("yes()") + [1]
        copy = list(calls)
        answers(calls)
        self.assertEqual(calls, copy)

    def test_the_same_list_twice(self):
        calls = [3] + load(ASK) + [1, 2, 3, 4, 3, 5, 4] + load("nothing") + [1]
        first = answers(calls)
        self.assertEqual(answers(calls), first)
        answers(load(HEAD + "jump 0;") + [3])
        self.assertEqual(answers(calls), first)

    def test_nothing_is_kept(self):
        answers(load(ASK))
        self.assertEqual(answers([3]), [1, -1])

    def test_what_is_given_back_is_not_kept(self):
        calls = load(ASK) + [1, 5, 4, 4, 10]
        first = answers(calls)
        copy = list(first)
        first.clear()
        self.assertEqual(answers(calls), copy)

    def test_whole_numbers_alone(self):
        calls = load(ASK) + [1, 2, 3, 4, 3, 4, 10, 5, 4] + load("x") + [3]
        for number in answers(calls):
            self.assertIs(type(number), int)

    def test_400_calls(self):
        told = asked_of(HEAD + "stop;", *([VERIFY] * 399))
        self.assertEqual(told, [[1, 1, 0, 0]] * 399)

    def test_400_calls_on_the_longest_code(self):
        text = HEAD + "jump 1;" + "".join(f"jump {spot};" for spot in range(2, 370)) + "stop;"
        told = asked_of(text, *([VERIFY, shape(369), SHOWN] * 133))
        self.assertEqual(told[0::3], [[1, 370, 0, 0]] * 133)
        self.assertEqual(told[1::3], [[1, 0, 0]] * 133)

    def test_the_worked_answers(self):
        told = asked_of(ASK, VERIFY, shape(3), shape(10), leads(4))
        self.assertEqual(told, [[1, 14, 2, 3], [1, 1, 1, 2, 1, 1], [1, 3, 1, 1, 0, 0], [2, 5, 8]])


if __name__ == "__main__":
    unittest.main()
