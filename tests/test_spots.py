import unittest

from helper import ASK, HEAD, VERIFY, asked_of, leads, shape

FAR = 10 ** 18
OUTSIDE = (-1, -2, -FAR, FAR, 1000000000)


class ShapeCall(unittest.TestCase):
    def test_every_spot_of_the_worked_code(self):
        one = [1, 1, 1]
        expected = [
            [1, 0, 0], one + [0], one + [1, 1], one + [2, 1, 1], one + [1, 0], one + [0], one + [1, 1], one + [0],
            one + [0], one + [0], [1, 3, 1, 1, 0, 0], one + [0], one + [1, 1], one + [0],
        ]
        self.assertEqual(asked_of(ASK, *[shape(spot) for spot in range(14)]), expected)

    def test_the_stack_s_top_first(self):
        body = 'push true; push 1; push "a"; send a -> b c(3); stop;'
        self.assertEqual(asked_of(HEAD + body, shape(1), shape(2), shape(3), shape(4)),
                         [[1, 0, 1, 0], [1, 0, 2, 1, 0], [1, 0, 3, 2, 1, 0], [1, 0, 0]])

    def test_slot_0_first(self):
        body = "any 0 1; recv a <- b {c(text 3, flag) 2}; stop;"
        self.assertEqual(asked_of(HEAD + body, shape(2)), [[1, 3, 1, 2, 0, 0]])

    def test_no_such_spot(self):
        for text in (ASK, HEAD + "jump 99;", HEAD + "stop; stop;"):
            for spot in OUTSIDE + (14,):
                self.assertEqual(asked_of(text, shape(spot)), [[-2]])

    def test_both_ends_of_the_code(self):
        self.assertEqual(asked_of(HEAD + "stop;", shape(-1), shape(0), shape(1)), [[-2], [1, 0, 0], [-2]])
        self.assertEqual(asked_of(ASK, shape(13), shape(14)), [[1, 1, 1, 0], [-2]])

    def test_not_verified(self):
        for body in ("jump 99;", "jump 0;", "op add;", "push 1; stop;"):
            self.assertEqual(asked_of(HEAD + body, shape(0)), [[-5]])
        # Also where the spot was known, and where it is not known.
        self.assertEqual(asked_of(HEAD + "push 1; jump 3; stop; stop;", shape(0), shape(1), shape(2), shape(3), shape(4)),
                         [[-5], [-5], [-5], [-5], [-2]])

    def test_not_known(self):
        self.assertEqual(asked_of(HEAD + "jump 2; op add; stop; push 1;", *[shape(spot) for spot in range(5)]),
                         [[1, 0, 0], [-6], [1, 0, 0], [-6], [-2]])

    def test_after_verify_and_before(self):
        self.assertEqual(asked_of(ASK, shape(3), VERIFY, shape(3)), [[1, 1, 1, 2, 1, 1], [1, 14, 2, 3], [1, 1, 1, 2, 1, 1]])


class LeadsCall(unittest.TestCase):
    def test_each_instruction(self):
        for instruction, expected in (
            ("push 1;", [1]), ("get 0;", [1]), ("op add;", [1]), ("set 0 flag;", [1]), ("any 0 1;", [1]),
            ("send a -> b c(0);", [1]), ("jump 7;", [7]), ("go 7();", [7]), ("go 7(flag, num 0 1);", [7]),
            ("skip 7;", [1, 7]), ("if 7;", [1, 7]), ("pick 7;", [7]), ("pick 7, 3, 7, 0;", [7, 3, 7, 0]),
            ("recv a <- b {c() 7};", [7]), ("recv a <- b {c() 7, d(flag) 3, e()[f] 7};", [7, 3, 7]), ("stop;", []),
        ):
            # Neither verified, nor with instructions at the spots to which they lead.
            self.assertEqual(asked_of(HEAD + instruction, leads(0)), [[len(expected)] + expected])

    def test_the_next_spot_is_one_further(self):
        for instruction in ("push 1;", "get 0;", "op add;", "set 0 flag;", "any 0 1;", "send a -> b c(0);"):
            self.assertEqual(asked_of(HEAD + "stop;" * 5 + instruction, leads(5)), [[1, 6]])
            self.assertEqual(asked_of(HEAD + "stop;" * 5 + instruction + "stop;", leads(5)), [[1, 6]])
        for word in ("skip", "if"):
            self.assertEqual(asked_of(HEAD + "stop;" * 5 + word + " 2;", leads(5)), [[2, 6, 2]])
            self.assertEqual(asked_of(HEAD + "stop;" * 5 + word + " 6;", leads(5)), [[2, 6, 6]])

    def test_far_spots(self):
        self.assertEqual(asked_of(HEAD + "jump 1000000000; pick 0, 1000000000;", leads(0), leads(1)),
                         [[1, 1000000000], [2, 0, 1000000000]])

    def test_16_spots_and_ways(self):
        spots = [str(spot) for spot in range(20, 36)]
        ways = ", ".join(f"l{spot}() {spot}" for spot in spots)
        self.assertEqual(asked_of(HEAD + f"pick {', '.join(spots)}; recv a <- b {{{ways}}};", leads(0), leads(1)),
                         [[16] + list(range(20, 36))] * 2)

    def test_every_spot_of_the_worked_code(self):
        expected = [[1, 1], [1, 2], [1, 3], [1, 4], [2, 5, 8], [1, 6], [1, 7], [1, 9], [1, 9], [2, 11, 10], [0], [1, 12],
                    [1, 13], [0]]
        self.assertEqual(asked_of(ASK, *[leads(spot) for spot in range(14)]), expected)

    def test_no_such_spot(self):
        for text in (ASK, HEAD + "jump 99;", HEAD + "stop; stop;"):
            for spot in OUTSIDE + (14,):
                self.assertEqual(asked_of(text, leads(spot)), [[-2]])
        self.assertEqual(asked_of(HEAD + "stop;", leads(0), leads(1)), [[0], [-2]])


if __name__ == "__main__":
    unittest.main()
