"""What is told of a run: status, send, slots and told, with every form of a message."""

import unittest

from helper import ASK, HEAD, SEND, SLOTS, STATUS, TOLD, asked_of, begin, hear, messages_of, run_of, sized, values_of

FORMS = ("true", "false", "0", "7", "-1000000000", '""', '"ab c"', '"\\"\\\\\\n\\x00\\x7f\\xff ~!"')
HANDED = ("", "[K]", "[K, L]", "[longestNameOf16b, L2]")


class Worked(unittest.TestCase):
    def test_number_by_number(self):
        told = asked_of(ASK, begin([13]), STATUS, SEND, hear("yes()"), STATUS)
        self.assertEqual(told, [[1], [1, 6, 6, 1, 65, 1, 66, 6, 108, 111, 119, 40, 51, 41], [6, 108, 111, 119, 40, 51, 41],
                                [0], [0, 13, 9]])

    def test_what_else_can_be_asked_on_the_way(self):
        told = run_of(ASK, [13], SLOTS, TOLD, SEND, STATUS, SLOTS, TOLD, hear("yes()"), SLOTS, TOLD)
        self.assertEqual(told[:2], [[1, 1, 51], [0]])
        self.assertEqual(told[3], [2, 9, 7, 1, 65, 1, 66, 2, 3, 121, 101, 115, 2, 110, 111])
        self.assertEqual(told[4:6], [[1, 1, 51], [1, 1, 6, 108, 111, 119, 40, 51, 41]])
        self.assertEqual(told[7:], [[1, 1, 55], [2, 1, 6, 108, 111, 119, 40, 51, 41, 2, 5, 121, 101, 115, 40, 41]])

    def test_the_other_ways(self):
        told = run_of(ASK, [8], STATUS, SEND, STATUS, hear("no(4, true)[K]"), STATUS, SLOTS, TOLD)
        self.assertEqual(told[0], [1, 8, 5] + sized("A") + sized("B") + sized("high()[K]"))
        self.assertEqual(told[1], sized("high()[K]"))
        self.assertEqual(told[2][:3], [2, 9, 5])
        self.assertEqual(told[3:5], [[1], [0, 10, 5]])
        self.assertEqual(values_of(told[5]), ["8", "4", "true"])
        self.assertEqual(messages_of(told[6]), [(1, "high()[K]"), (2, "no(4, true)[K]")])

    def test_the_edge_between_them(self):
        self.assertEqual([run_of(ASK, [number], STATUS)[0][1] for number in range(10)], [6] * 5 + [8] * 5)


class Statuses(unittest.TestCase):
    def test_at_a_stop(self):
        self.assertEqual(run_of(HEAD + "stop;", [], STATUS), [[0, 0, 0]])
        self.assertEqual(run_of(HEAD + "any 0 9; jump 3; stop; stop;", [5], STATUS), [[0, 3, 2]])

    def test_where_the_run_has_failed(self):
        self.assertEqual(run_of(HEAD + "push 2; go 2(num 0 1); send a -> b c(0); stop;", [], STATUS), [[3, 1, 1]])

    def test_at_a_send(self):
        told = run_of(HEAD + "send seat1 -> B someLabel(0); stop;", [], STATUS)
        self.assertEqual(told, [[1, 0, 0] + sized("seat1") + sized("B") + sized("someLabel()")])

    def test_at_a_recv(self):
        told = run_of(HEAD + "recv hearerOf16bytes1 <- Q2 { one() 1 , b(flag)[K] 2 , three3(num 0 1, text 2) 3 };"
                      "stop; stop; stop;", [], STATUS)
        self.assertEqual(told, [[2, 0, 0] + sized("hearerOf16bytes1") + sized("Q2") + [3] + sized("one") + sized("b")
                                + sized("three3")])

    def test_at_a_recv_with_one_way_and_with_16(self):
        for count in (1, 16):
            ways = " , ".join(f"w{k}() 1" for k in range(count))
            told = run_of(HEAD + f"recv a <- b {{ {ways} }}; stop;", [], STATUS)
            expected = [2, 0, 0] + sized("a") + sized("b") + [count]
            for k in range(count):
                expected += sized(f"w{k}")
            self.assertEqual(told, [expected])

    def test_asking_twice_changes_nothing(self):
        told = run_of(ASK, [13], STATUS, STATUS, SLOTS, TOLD, STATUS, SEND, STATUS, STATUS)
        self.assertEqual(told[0], told[1])
        self.assertEqual(told[0], told[4])
        self.assertEqual(told[6], told[7])


class Messages(unittest.TestCase):
    def check_sent(self, values, handed):
        pushes = "".join(f"push {value};" for value in values)
        text = HEAD + f"{pushes} send A -> B want({len(values)}){handed}; stop;"
        form = f"want({', '.join(values)}){handed}"
        told = run_of(text, [], STATUS, SEND, TOLD, STATUS)
        self.assertEqual(told[0], [1, len(values), len(values)] + sized("A") + sized("B") + sized(form))
        self.assertEqual(told[1], sized(form))
        self.assertEqual(told[2], [1, 1] + sized(form))
        self.assertEqual(told[3], [0, len(values) + 1, len(values)])

    def check_heard(self, values, handed):
        ranges = {"t": "flag", "f": "flag", '"': "text 255"}
        extents = ", ".join(ranges.get(value[0], "num -1000000000 1000000000") for value in values)
        text = HEAD + f"any 4 4; recv A <- B {{ want({extents}){handed} 2 }}; stop;"
        form = f"want({', '.join(values)}){handed}"
        told = run_of(text, [], hear(form), SLOTS, TOLD, STATUS)
        self.assertEqual(told[0], [0])
        self.assertEqual(values_of(told[1]), ["4"] + list(values))
        self.assertEqual(told[2], [1, 2] + sized(form))
        self.assertEqual(told[3], [0, 2, 1])

    def test_none_to_four_values_of_every_kind(self):
        for handed in HANDED:
            for count in range(5):
                for first in range(len(FORMS)):
                    values = [FORMS[(first + 3 * k) % len(FORMS)] for k in range(count)]
                    self.check_sent(values, handed)
                    self.check_heard(values, handed)

    def test_every_byte(self):
        for byte in range(256):
            written = chr(byte) if 32 <= byte <= 126 and byte not in (34, 92) else f"\\x{byte:02x}"
            shown = {34: '\\"', 92: "\\\\", 10: "\\n"}.get(byte, written)
            text = HEAD + "recv A <- B { c(text 1) 1 }; get 0; send A -> B d(1); stop;"
            told = run_of(text, [], hear(f'c("{written}")'), SLOTS, SEND, TOLD)
            self.assertEqual(values_of(told[1]), [f'"{shown}"'])
            self.assertEqual(told[2], sized(f'd("{shown}")'))
            self.assertEqual(messages_of(told[3]), [(2, f'c("{shown}")'), (1, f'd("{shown}")')])

    def test_four_texts_of_255_bytes(self):
        self.check_sent(['"' + "\\xff" * 255 + '"'] + ['"' + "q" * 255 + '"'] * 3, "[K, L]")
        self.check_heard(['"' + "\\xff" * 255 + '"'] + ['"' + "q" * 255 + '"'] * 3, "[K, L]")

    def test_numbers_beyond_what_can_be_written(self):
        text = HEAD + "push -1000000000; push 1000000000; op mul; send A -> B c(1); stop;"
        self.assertEqual(run_of(text, [], SEND), [sized("c(-1000000000000000000)")])


class Sends(unittest.TestCase):
    def test_the_lowest_value_first(self):
        self.assertEqual(run_of(HEAD + "push 1; push 2; push 3; push 4; send a -> b c(4); stop;", [], SEND),
                         [sized("c(1, 2, 3, 4)")])

    def test_the_values_are_off_the_stack(self):
        told = run_of(HEAD + "push 1; push 2; send a -> b c(2); push 3; send a -> b d(1); send a -> b e(0); stop;", [],
                      SEND, SEND, SEND, STATUS)
        self.assertEqual(told, [sized("c(1, 2)"), sized("d(3)"), sized("e()"), [0, 6, 3]])

    def test_the_slots_stay(self):
        told = run_of(HEAD + "any 0 9; get 0; send a -> b c(1); stop;", [6], SLOTS, SEND, SLOTS)
        self.assertEqual(told[0], told[2])

    def test_refused_where_status_is_not_1(self):
        cases = (("stop;", [0, 0, 0]), ("recv a <- b { c() 1 }; stop;", None), ("push 1; go 2(num 2 2); stop;", [3, 1, 1]))
        for instructions, status in cases:
            told = run_of(HEAD + instructions, [], STATUS, SEND, STATUS, TOLD)
            self.assertEqual(told[1:], [[-8], told[0], [0]])
            if status:
                self.assertEqual(told[0], status)


class SlotsAndTold(unittest.TestCase):
    def test_none(self):
        self.assertEqual(run_of(HEAD + "stop;", [], SLOTS, TOLD), [[0], [0]])

    def test_slots_of_every_kind(self):
        values = ["true", "false", "-12", "0", '""', '"a\\"b"', "999999999"]
        ranges = "flag, flag, num -12 0, num 0 0, text 0, text 9, num 0 1000000000"
        text = HEAD + "".join(f"push {value};" for value in values) + f"go 8({ranges}); stop;"
        self.assertEqual(values_of(run_of(text, [], SLOTS)[0]), values)

    def test_32_slots(self):
        told = run_of(HEAD + "any 0 99;" * 32 + "stop;", list(range(50, 82)), SLOTS)
        self.assertEqual(values_of(told[0]), [str(number) for number in range(50, 82)])

    def test_sent_and_heard_in_their_order(self):
        text = HEAD + "send a -> b one(0); recv a <- b { two(num 0 9) 2 , more() 0 }; recv b <- a { three()[K] 3 };" \
            "get 0; send a -> b four(1)[K, L]; stop;"
        told = run_of(text, [], SEND, hear("more()"), SEND, hear("two(5)"), TOLD, hear("three()[K]"), SEND, TOLD)
        expected = [(1, "one()"), (2, "more()"), (1, "one()"), (2, "two(5)")]
        self.assertEqual(messages_of(told[4]), expected)
        self.assertEqual(messages_of(told[7]), expected + [(2, "three()[K]"), (1, "four(5)[K, L]")])


if __name__ == "__main__":
    unittest.main()
