import unittest

from helper import ASK, HEAD, VERIFY, asked_of, shape

WRITTEN = {"truth": "true", "number": "1", "text": '"a"'}
KINDS = ("truth", "number", "text")
NUMBER_OF = {"truth": 0, "number": 1, "text": 2}

OPERATIONS = {
    "neg": (["number"], "number"), "abs": (["number"], "number"), "not": (["truth"], "truth"),
    "len": (["text"], "number"), "digits": (["number"], "text"),
    "add": (["number", "number"], "number"), "sub": (["number", "number"], "number"),
    "mul": (["number", "number"], "number"), "div": (["number", "number"], "number"),
    "mod": (["number", "number"], "number"), "min": (["number", "number"], "number"),
    "max": (["number", "number"], "number"), "lt": (["number", "number"], "truth"),
    "le": (["number", "number"], "truth"), "and": (["truth", "truth"], "truth"), "or": (["truth", "truth"], "truth"),
    "join": (["text", "text"], "text"), "first": (["text", "number"], "text"), "rest": (["text", "number"], "text"),
    "at": (["text", "number"], "number"),
}

# Instructions that have a fault 6 where something is left on the stack.
NEEDS_EMPTY = ("any 0 1;", "pick 0;", "recv a <- b {c() 0};", "stop;", "go 0();", "send a -> b c(0);")


def push(*kinds):
    return "".join(f"push {WRITTEN[kind]};" for kind in kinds)


class VerifyCase(unittest.TestCase):
    def assert_verify(self, body, *answer):
        self.assertEqual(asked_of(HEAD + body, VERIFY), [list(answer)], body)

    def assert_fault(self, body, number, spot):
        self.assert_verify(body, 0, number, spot)


class Worked(VerifyCase):
    def test_the_worked_code(self):
        self.assertEqual(asked_of(ASK, VERIFY), [[1, 14, 2, 3]])

    def test_without_the_last_instruction(self):
        self.assertEqual(asked_of(ASK[:ASK.rindex("stop")], VERIFY), [[0, 1, 12]])

    def test_smallest(self):
        self.assert_verify("stop;", 1, 1, 0, 0)


class PushAndGet(VerifyCase):
    def test_push_leads_to_the_next(self):
        self.assert_fault("push 1;", 1, 0)
        self.assert_verify("push 1; send a -> b c(1); stop;", 1, 3, 1, 0)

    def test_64_kinds(self):
        self.assert_fault("push 1;" * 64, 1, 63)
        self.assert_fault("push 1;" * 65, 5, 64)
        self.assert_fault("push true;" * 70, 5, 64)
        # Without a stop that could be reached: the jump leads to itself.
        self.assert_fault("push 1;" * 64 + "jump 64;", 9, 64)

    def test_get_with_64_kinds(self):
        self.assert_fault("any 0 1;" + "get 0;" * 64, 1, 64)
        self.assert_fault("any 0 1;" + "get 0;" * 65, 5, 65)
        self.assert_fault("any 0 1;" + "push 1;" * 64 + "get 0;", 5, 65)

    def test_get_without_a_slot_comes_before_a_full_stack(self):
        self.assert_fault("any 0 1;" + "push 1;" * 64 + "get 1;", 4, 65)

    def test_get_of_the_slots_there_are(self):
        self.assert_fault("get 0; stop;", 4, 0)
        self.assert_fault("any 0 1; get 1; stop;", 4, 1)
        self.assert_fault("any 0 1; any 0 1; get 1;", 1, 2)
        self.assert_fault("any 0 1; get 0;", 1, 1)

    def test_get_gives_the_slot_s_kind(self):
        for number, kind in enumerate(KINDS):
            for word in ("not", "neg", "len"):
                body = f"recv a <- b {{c(flag, num 0 1, text 1) 1}}; get {number}; op {word}; send a -> b c(1); stop;"
                if OPERATIONS[word][0] == [kind]:
                    self.assert_verify(body, 1, 5, 1, 3)
                else:
                    self.assert_fault(body, 3, 2)


class Op(VerifyCase):
    def test_empty_stack(self):
        for word, (taken, given) in OPERATIONS.items():
            self.assert_fault(f"op {word}; stop;", 2, 0)
        self.assert_fault("op eq; stop;", 2, 0)

    def test_one_kind_where_two_are_taken(self):
        for word in list(OPERATIONS) + ["eq"]:
            if word == "eq" or len(OPERATIONS[word][0]) == 2:
                for kind in KINDS:
                    self.assert_fault(push(kind) + f"op {word}; stop;", 2, 1)

    def test_every_kind_with_one_argument(self):
        for word, (taken, given) in OPERATIONS.items():
            if len(taken) == 1:
                for kind in KINDS:
                    self.check_op(word, [kind], taken == [kind], given)

    def test_every_two_kinds(self):
        for first in KINDS:
            for second in KINDS:
                for word, (taken, given) in OPERATIONS.items():
                    if len(taken) == 2:
                        self.check_op(word, [first, second], taken == [first, second], given)
                self.check_op("eq", [first, second], first == second, "truth")

    def check_op(self, word, kinds, fits, given):
        # One more kind lies below, which the operation must leave alone.
        body = push("text", *kinds) + f"op {word}; send a -> b c(2); stop;"
        spot = len(kinds) + 1
        if not fits:
            self.assert_fault(body, 3, spot)
            return
        told = asked_of(HEAD + body, VERIFY, shape(spot + 1))
        self.assertEqual(told, [[1, spot + 3, len(kinds) + 1, 0], [1, 0, 2, NUMBER_OF[given], 2]], body)

    def test_with_a_full_stack(self):
        self.assert_fault("push 1;" * 64 + "op neg;", 1, 64)
        self.assert_fault("push 1;" * 64 + "op add; push 1;", 1, 65)
        self.assert_fault("push 1;" * 64 + "op add; push 1; push 1;", 5, 66)

    def test_leads_to_the_next(self):
        self.assert_fault("push 1; op neg;", 1, 1)


class Jumps(VerifyCase):
    def test_jump(self):
        self.assert_verify("jump 2; op add; stop;", 1, 2, 0, 0)
        self.assert_fault("jump 1;", 1, 0)
        self.assert_fault("jump 1000000000;", 1, 0)
        self.assert_verify("push 1; jump 3; stop; send a -> b c(1); stop;", 1, 4, 1, 0)

    def test_skip(self):
        self.assert_fault("skip 1; stop;", 2, 0)
        self.assert_fault("push 1; skip 2; stop;", 3, 1)
        self.assert_fault('push "true"; skip 2; stop;', 3, 1)
        self.assert_verify("push true; skip 2; stop;", 1, 3, 1, 0)
        # What lies below the truth stays.
        self.assert_verify("push 1; push true; skip 3; send a -> b c(1); stop;", 1, 5, 2, 0)
        self.assert_fault("push 1; push true; skip 3; stop;", 6, 3)

    def test_if(self):
        self.assert_fault("if 1; stop;", 2, 0)
        self.assert_fault("push 1; if 2; stop;", 3, 1)
        self.assert_verify("push true; if 2; stop;", 1, 3, 1, 0)
        self.assert_fault("push 1; push true; if 3; stop;", 6, 2)
        self.assert_fault("push true; push 1; if 3; stop;", 3, 2)

    def test_both_ways_of_skip_and_if(self):
        for word in ("skip", "if"):
            self.assert_fault(f"push true; {word} 5; stop;", 1, 1)
            self.assert_fault(f"push true; {word} 0;", 1, 1)
            self.assert_verify(f"push true; {word} 3; stop; stop;", 1, 4, 1, 0)
            # The next spot is put on the list first.
            self.assert_fault(f"push true; {word} 3; op not; op add;", 2, 2)
            self.assert_fault(f"push true; {word} 3; stop; get 0;", 4, 3)

    def test_one_spot_by_both_ways(self):
        for word in ("skip", "if"):
            self.assert_verify(f"push true; {word} 2; stop;", 1, 3, 1, 0)


class Set(VerifyCase):
    def test_set(self):
        self.assert_verify("any 0 1; push 1; set 0 num 0 1; stop;", 1, 4, 1, 1)
        self.assert_fault("any 0 1; push 1; set 0 num 0 1;", 1, 2)

    def test_every_kind(self):
        ranges = {"truth": "flag", "number": "num 0 1", "text": "text 1"}
        for slot in KINDS:
            for top in KINDS:
                for extent in KINDS:
                    body = f"recv a <- b {{c({ranges[slot]}) 1}};" + push(top) + f"set 0 {ranges[extent]}; stop;"
                    if slot == top == extent:
                        self.assert_verify(body, 1, 4, 1, 1)
                    else:
                        self.assert_fault(body, 3, 2)

    def test_order(self):
        self.assert_fault("set 0 flag; stop;", 4, 0)
        self.assert_fault("any 0 1; set 1 flag; stop;", 4, 1)
        self.assert_fault("any 0 1; push true; push true; set 1 flag; stop;", 4, 3)
        self.assert_fault("any 0 1; set 0 flag; stop;", 2, 1)
        self.assert_fault("any 0 1; push 1; push true; set 0 num 0 1; stop;", 3, 3)
        self.assert_fault("any 0 1; push 1; push 1; set 0 flag; stop;", 3, 3)
        self.assert_fault("any 0 1; push 1; push 1; set 0 num 0 1; stop;", 6, 3)
        self.assert_fault("any 0 1; push true; push 1; set 0 num 0 1; stop;", 6, 3)


class AnyAndPick(VerifyCase):
    def test_any(self):
        self.assert_fault("any 0 1;", 1, 0)
        self.assert_fault("push 1; any 0 1; stop;", 6, 1)
        self.assert_verify("any 0 1; get 0; op neg; send a -> b c(1); stop;", 1, 5, 1, 1)

    def test_32_slots(self):
        self.assert_verify("any 0 1;" * 32 + "stop;", 1, 33, 0, 32)
        self.assert_fault("any 0 1;" * 33 + "stop;", 5, 32)
        self.assert_fault("any 0 1;" * 32 + "push 1; any 0 1; stop;", 6, 33)
        self.assert_verify("any 0 1;" * 32 + "get 31; set 31 num 0 1; stop;", 1, 35, 1, 32)

    def test_pick(self):
        self.assert_fault("push 1; pick 2; stop;", 6, 1)
        self.assert_verify("pick 1; stop;", 1, 2, 0, 0)
        self.assert_verify("pick 1, 1, 1; stop;", 1, 2, 0, 0)
        self.assert_fault("pick 1, 2, 3; stop; stop;", 1, 0)
        self.assert_verify("any 0 1; pick 3, 2; stop; stop;", 1, 4, 0, 1)

    def test_pick_in_order(self):
        self.assert_fault("pick 3, 2, 1; get 0; op add; push 1;", 1, 3)
        self.assert_fault("pick 1, 2, 3; get 0; op add; push 1;", 4, 1)
        self.assert_fault("pick 2, 1, 3; get 0; op add; push 1;", 2, 2)


class Go(VerifyCase):
    def test_go(self):
        self.assert_verify("go 1(); stop;", 1, 2, 0, 0)
        self.assert_fault("go 1();", 1, 0)
        self.assert_verify("any 0 1; go 2(); stop;", 1, 3, 0, 1)
        self.assert_fault("any 0 1; go 2(); get 0;", 4, 2)

    def test_slots_in_order(self):
        body = push(*KINDS) + "go 5(flag, num 0 1, text 1); stop; stop;"
        self.assertEqual(asked_of(HEAD + body, VERIFY, shape(5)), [[1, 5, 3, 3], [1, 3, 0, 1, 2, 0]])

    def test_the_last_range_is_taken_first(self):
        self.assert_fault(push("text", "number") + "go 3(num 0 1, text 1); stop;", 3, 2)
        self.assert_verify(push("text", "number") + "go 3(text 1, num 0 1); stop;", 1, 4, 2, 2)

    def test_2_and_3_for_each_in_turn(self):
        self.assert_fault("go 1(flag); stop;", 2, 0)
        self.assert_fault("push true; go 2(flag, flag); stop;", 2, 1)
        # The top is of another kind: this comes before what is missing below it.
        self.assert_fault("push 1; go 2(flag, flag); stop;", 3, 1)
        self.assert_fault("push 1; push true; go 3(flag, flag, flag); stop;", 3, 2)
        self.assert_fault("push true; push true; go 3(num 0 1, flag, flag); stop;", 2, 2)

    def test_6_comes_last(self):
        self.assert_fault("push 1; go 2(); stop;", 6, 1)
        self.assert_fault("push 1; push true; go 3(flag); stop;", 6, 2)
        self.assert_fault("push 1; push 1; go 3(flag); stop;", 3, 2)

    def test_every_kind(self):
        ranges = {"truth": "flag", "number": "num 0 1", "text": "text 1"}
        for top in KINDS:
            for extent in KINDS:
                body = push(top) + f"go 2({ranges[extent]}); stop;"
                if top == extent:
                    self.assert_verify(body, 1, 3, 1, 1)
                else:
                    self.assert_fault(body, 3, 1)

    def test_eight_ranges(self):
        self.assert_verify("push true;" * 8 + "go 9(" + ", ".join(["flag"] * 8) + "); stop;", 1, 10, 8, 8)


class SendRecvStop(VerifyCase):
    def test_send(self):
        self.assert_fault("send a -> b c(0);", 1, 0)
        for count in range(5):
            for have in range(6):
                body = "".join(f"push {WRITTEN[KINDS[k % 3]]};" for k in range(have)) + f"send a -> b c({count}); stop;"
                if have < count:
                    self.assert_fault(body, 2, have)
                elif have > count:
                    self.assert_fault(body, 6, have)
                else:
                    self.assert_verify(body, 1, have + 2, have, 0)

    def test_send_leaves_the_slots(self):
        self.assert_verify("any 0 1; send a -> b c(0); get 0; send a -> b c(1); stop;", 1, 5, 1, 1)

    def test_recv(self):
        self.assert_fault("push 1; recv a <- b {c() 2}; stop;", 6, 1)
        self.assert_fault("recv a <- b {c() 1};", 1, 0)
        self.assert_fault("recv a <- b {c() 1, d() 2}; stop;", 1, 0)
        self.assert_verify("recv a <- b {c() 0};", 1, 1, 0, 0)

    def test_slots_behind_the_others(self):
        body = "any 0 1; recv a <- b {c(flag, text 3) 2, d() 3}; stop; stop;"
        told = asked_of(HEAD + body, VERIFY, shape(2), shape(3))
        self.assertEqual(told, [[1, 4, 0, 3], [1, 3, 1, 0, 2, 0], [1, 1, 1, 0]])

    def test_32_slots(self):
        self.assert_verify("any 0 1;" * 28 + "recv a <- b {c(flag, flag, flag, flag) 29}; stop;", 1, 30, 0, 32)
        self.assert_fault("any 0 1;" * 29 + "recv a <- b {c(flag, flag, flag, flag) 30}; stop;", 5, 29)
        self.assert_fault("any 0 1;" * 32 + "recv a <- b {c() 33, d(flag) 34}; stop; stop;", 5, 32)
        self.assert_verify("any 0 1;" * 32 + "recv a <- b {c() 33}; stop;", 1, 34, 0, 32)

    def test_5_is_a_fault_of_the_instruction_ahead_of_its_leads(self):
        self.assert_fault("any 0 1;" * 32 + "recv a <- b {c() 99, d(flag) 33}; stop;", 5, 32)
        self.assert_fault("any 0 1;" * 32 + "recv a <- b {c() 0, d(flag) 33}; stop;", 5, 32)

    def test_6_comes_before_5(self):
        self.assert_fault("any 0 1;" * 32 + "push 1; recv a <- b {c(flag) 34}; stop;", 6, 33)

    def test_ways_in_order(self):
        self.assert_fault("recv a <- b {c() 2, d() 1}; get 0; op add;", 2, 2)
        self.assert_fault("recv a <- b {c() 1, d() 2}; get 0; op add;", 4, 1)

    def test_stop(self):
        self.assert_fault("push 1; stop;", 6, 1)
        self.assert_verify("stop; op add;", 1, 1, 0, 0)

    def test_what_needs_an_empty_stack(self):
        for instruction in NEEDS_EMPTY:
            self.assert_fault("push true; " + instruction + " stop;", 6, 1)


class Leading(VerifyCase):
    def test_beyond_the_code(self):
        for body, spot in (("any 0 1;", 0), ("stop; stop;", None), ("send a -> b c(0); jump 2;", 1),
                           ("pick 1, 2; stop;", 0), ("recv a <- b {c() 1, d() 2}; stop;", 0)):
            if spot is None:
                self.assert_verify(body, 1, 1, 0, 0)
            else:
                self.assert_fault(body, 1, spot)

    def test_an_instruction_s_fault_comes_before_its_leads(self):
        self.assert_fault("push 1; if 99;", 3, 1)
        self.assert_fault("push 1; pick 99;", 6, 1)
        self.assert_fault("get 0;", 4, 0)

    def test_another_shape(self):
        # By the slots: one way brings one more.
        self.assert_fault("pick 1, 2; any 0 1; stop;", 7, 1)
        self.assert_fault("recv a <- b {c(flag) 1, d() 1}; stop;", 7, 0)
        self.assert_fault("recv a <- b {c(flag) 1, d(num 0 1) 1}; stop;", 7, 0)
        self.assert_verify("recv a <- b {c(num 3 4) 1, d(num 0 1) 1}; stop;", 1, 2, 0, 1)
        # By the stack.
        self.assert_fault("push true; skip 4; push 1; jump 4; send a -> b c(0); stop;", 7, 3)
        self.assert_fault("push true; skip 4; push 1; jump 5; push true; send a -> b c(1); stop;", 7, 3)
        self.assert_verify("push true; skip 4; push 1; jump 5; push 2; send a -> b c(1); stop;", 1, 7, 1, 0)

    def test_the_order_of_kinds_is_part_of_a_shape(self):
        self.assert_fault("recv a <- b {c(flag, num 0 1) 1, d(num 0 1, flag) 1}; stop;", 7, 0)
        body = "push true; skip 5; push 1; push true; jump 7; push true; push 1; send a -> b c(2); stop;"
        self.assert_fault(body, 7, 4)

    def test_back_to_the_beginning_with_another_shape(self):
        self.assert_fault("any 0 1; send a -> b c(0); jump 0;", 7, 2)
        self.assert_verify("any 0 1; send a -> b c(0); go 0();", 1, 3, 0, 1)

    def test_1_and_7_in_the_order_of_the_leads(self):
        self.assert_fault("recv a <- b {c() 1, d(flag) 1, e() 9}; stop;", 7, 0)
        self.assert_fault("recv a <- b {c() 1, e() 9, d(flag) 1}; stop;", 1, 0)

    def test_the_first_fault_along_the_list(self):
        # Spot 3 is known before spot 1 leads on to 2.
        self.assert_fault("pick 1, 3; jump 2; get 0; op add;", 2, 3)
        self.assert_fault("pick 3, 1; jump 2; get 0; op add;", 2, 3)
        self.assert_fault("pick 1, 2; jump 3; push 1; get 0;", 7, 2)

    def test_spots_that_are_not_known(self):
        self.assert_verify("stop; get 31; op add; jump 99; jump 4; push 1; any 0 1;", 1, 1, 0, 0)
        self.assert_verify("jump 3; push 1; jump 2; stop;", 1, 2, 0, 0)
        self.assert_verify("push 1; send a -> b c(1); stop; push 1; push 1; any 0 1;", 1, 3, 1, 0)

    def test_the_most_on_a_stack_and_in_slots(self):
        self.assert_verify("push 1; push 1; push 1; op add; op add; send a -> b c(1); any 0 1; go 8(); stop;",
                           1, 9, 3, 1)
        self.assert_verify("any 0 1; any 0 1; go 3(); any 0 1; stop;", 1, 5, 0, 2)


class Silent(VerifyCase):
    def test_to_itself(self):
        self.assert_fault("jump 0;", 9, 0)
        self.assert_fault("go 0();", 9, 0)
        self.assert_fault("pick 0;", 9, 0)
        self.assert_fault("pick 1, 0; stop;", 9, 0)
        self.assert_fault("push true; go 1(flag);", 7, 1)

    def test_each_silent_instruction_on_a_round(self):
        self.assert_fault("push true; if 0; stop;", 9, 0)
        self.assert_fault("push true; skip 0; stop;", 9, 0)
        self.assert_fault("push true; op not; if 0; stop;", 9, 0)
        self.assert_fault("any 0 1; go 0();", 9, 0)
        self.assert_fault("any 0 1; get 0; set 0 num 0 1; jump 1;", 9, 1)
        self.assert_fault("pick 1, 2; jump 0; stop;", 9, 0)

    def test_a_message_on_the_round(self):
        self.assert_verify("send a -> b c(0); jump 0;", 1, 2, 0, 0)
        self.assert_verify("recv a <- b {c() 0, d() 1}; jump 0;", 1, 2, 0, 0)
        self.assert_verify("push true; if 3; jump 3; send a -> b c(0); pick 0, 5; stop;", 1, 6, 1, 0)

    def test_one_round_with_a_message_and_one_without(self):
        self.assert_fault("push true; if 3; jump 0; send a -> b c(0); jump 0;", 9, 0)

    def test_the_first_in_the_list(self):
        # 0 leads to the round but is not on it; the list is 0, 3, 2.
        self.assert_fault("jump 3; stop; jump 3; jump 2;", 9, 3)
        # The list is 0, 4, 1, 5, 2: the round of 5 comes before that of 2.
        self.assert_fault("pick 4, 1; jump 2; jump 2; stop; jump 5; jump 5;", 9, 5)
        # The list is 0, 2, 1, 3: 2 comes first though 1 is lower.
        self.assert_fault("pick 2, 1; jump 1; jump 2;", 9, 2)
        self.assert_fault("pick 1, 2; jump 1; jump 2;", 9, 1)

    def test_ahead_of_a_round(self):
        # 1 and 2 lead to the round of 3, and 0 comes back to itself by a message alone.
        self.assert_fault("send a -> b c(0); pick 2, 4, 0; jump 3; jump 3; stop;", 9, 3)

    def test_behind_every_other_fault(self):
        self.assert_fault("pick 0, 1; push 1;", 1, 1)
        self.assert_fault("pick 0, 1; get 0;", 4, 1)
        self.assert_fault("pick 0, 1; any 0 1; jump 0;", 7, 2)

    def test_rounds_that_are_not_known(self):
        self.assert_verify("stop; jump 2; jump 1;", 1, 1, 0, 0)

    def test_a_long_way(self):
        way = "".join(f"jump {spot};" for spot in range(1, 370))
        self.assert_verify(way + "stop;", 1, 370, 0, 0)
        self.assert_fault(way + "jump 0;", 9, 0)
        self.assert_fault(way + "jump 350;", 9, 350)
        self.assert_fault(way + "jump 369;", 9, 369)


if __name__ == "__main__":
    unittest.main()
