"""A thousand messages in one run. No list of calls is as long, so the calls are asked one by one."""

import unittest

from helper import HEAD, SEND, SLOTS, STATUS, TOLD, begin, hear, load, messages_of, sized
from speakcode.machine import Machine, answer_of, call_at

SENDS = HEAD + "any 0 9; get 0; send a -> b c(1); go 0();"
HEARS = HEAD + "recv a <- b { d(num 0 9) 1 }; go 0();"
BOTH = HEAD + "send a -> b c(0); recv a <- b { d()[K] 0 };"
COUNTS = HEAD + "push 0; go 2(num 0 2000); send a -> b c(0); get 0; push 1; op add; set 0 num 0 2000; get 0; push 1000;" \
    "op lt; if 12; jump 2; stop;"


class Asked:
    """One object, asked call by call."""

    def __init__(self, text, numbers=()):
        self.machine = Machine()
        self.ask(load(text))
        self.ask(begin(numbers))

    def ask(self, call):
        return answer_of(self.machine, call_at(call, 0))


class ThousandMessages(unittest.TestCase):
    def unchanged(self, asked, calls):
        """The answers of calls that are all refused, which leave everything as it was."""
        before = [asked.ask(call) for call in (STATUS, SLOTS, TOLD)]
        answers = [asked.ask(call) for call in calls]
        self.assertEqual([asked.ask(call) for call in (STATUS, SLOTS, TOLD)], before)
        return answers

    def test_sent(self):
        asked = Asked(SENDS, range(700))
        for turn in range(1000):
            self.assertEqual(asked.ask(SEND), sized(f"c({turn % 10 if turn < 700 else 0})"))
        self.assertEqual(asked.ask(STATUS)[:3], [1, 2, 3002])
        self.assertEqual(self.unchanged(asked, [SEND, SEND, hear("d()"), hear("(")]), [[-10], [-10], [-8], [-8]])
        told = messages_of(asked.ask(TOLD))
        self.assertEqual(told, [(1, f"c({turn % 10 if turn < 700 else 0})") for turn in range(1000)])

    def test_heard(self):
        asked = Asked(HEARS)
        for turn in range(1000):
            self.assertEqual(asked.ask(hear(f"d({turn % 10})")), [0])
        wrong = [hear("d(1)"), hear("e(1)"), hear("d()"), hear("d(99)"), hear("d(1)[K]"), hear("d("), hear(" " * 4097), SEND]
        self.assertEqual(self.unchanged(asked, wrong), [[-10]] * 5 + [[-9], [-9], [-8]])
        self.assertEqual(messages_of(asked.ask(TOLD)), [(2, f"d({turn % 10})") for turn in range(1000)])

    def test_sent_and_heard(self):
        asked = Asked(BOTH)
        for turn in range(500):
            self.assertEqual(asked.ask(SEND), sized("c()"))
            self.assertEqual(asked.ask(hear("d()[K]")), [0])
        self.assertEqual(self.unchanged(asked, [SEND, hear("d()[K]")]), [[-10], [-8]])
        self.assertEqual(messages_of(asked.ask(TOLD)), [(1, "c()"), (2, "d()[K]")] * 500)

    def test_refused_ones_do_not_count(self):
        asked = Asked(HEARS)
        for turn in range(1000):
            self.assertEqual(asked.ask(hear("d(10)")), [-13])
            self.assertEqual(asked.ask(SEND), [-8])
            self.assertEqual(asked.ask(hear("d(1)")), [0])
        self.assertEqual(asked.ask(hear("d(10)")), [-10])

    def test_at_a_stop_behind_them(self):
        asked = Asked(COUNTS)
        for turn in range(1000):
            self.assertEqual(asked.ask(SEND), sized("c()"))
        # Two ahead of the first message, nine behind each but the last, eight behind that.
        self.assertEqual(asked.ask(STATUS), [0, 12, 2 + 999 * 9 + 8])
        self.assertEqual(self.unchanged(asked, [SEND, hear("d()")]), [[-8], [-8]])

    def test_a_new_run_counts_anew(self):
        asked = Asked(BOTH)
        for turn in range(500):
            asked.ask(SEND)
            asked.ask(hear("d()[K]"))
        self.assertEqual(asked.ask(SEND), [-10])
        self.assertEqual(asked.ask(begin([])), [1])
        self.assertEqual([asked.ask(TOLD), asked.ask(SEND), asked.ask(hear("d()[K]"))], [[0], sized("c()"), [0]])


if __name__ == "__main__":
    unittest.main()
