"""Hearing: what is a message, the order of refusals, and the way by which one is heard."""

import unittest

from helper import HEAD, SEND, SLOTS, STATUS, TOLD, hear, messages_of, run_of, sized, values_of

CODE = HEAD + "any 1 1; recv A <- B { yes() 2 , no(num 0 9, flag)[K] 3 ," \
    " all(text 2, num -1 1, flag, text 0)[K, L] 4 , pair()[L, K] 5 }; stop; stop; stop; stop;"

NO_MESSAGES = (
    "", " ", "\n", "# yes()", "yes", "yes(", "yes)", "yes()(", "()", "(yes)", "yes() yes()", "yes() yes", "yes();",
    "yes(),", "yes()]", "yes()[]", "yes()[ ]", "yes()[K", "yes()[K,]", "yes()[,K]", "yes()[K L]", "yes()[K, L, M]",
    "yes()[K][L]", "yes()[1]", "yes()[true]", "yes()[flag]", 'yes()["K"]', "[K]yes()", "yes[K]()", "yes()K",
    "yes(,)", "yes(1,)", "yes(,1)", "yes(1 2)", "yes(1,,2)", "yes(1;2)", "yes(a)", "yes(flag)", "yes(num 0 9)", "yes(())",
    "yes([K])", "yes(1, 2, 3, 4, 5)", "yes(true, false, 1, \"\", 0)", "yes(1, 2, 3, 4, )", "yes(1, 2, 3, 4, a)",
    "1()", "\"yes\"()", "true()", "false(1)", "send()", "stop()", "code", "program()", "text()", "for()", "any()",
    "yes(007)", "yes(-0)", "yes(1000000001)", "yes(-1000000001)", "yes(1.5)", "yes(+1)", "yes(- 1)", "yes(-)",
    "yes('a')", "yes(\"a)", "yes(\"a\nb\")", "yes(\"\\q\")", "yes(\"\\xFF\")", "yes(\"\\x1\")", "yes(True1x)",
    "yes()\r", "yes()\x00", "\xefyes()", "yes()\xff", "yes() ^", "yes() <", "seventeenLettersX()",
    "yes()[seventeenLettersX]", "yes(\"" + "a" * 256 + "\")", "yes()" + " " * 4092, "x" * 8192, " " * 4097,
    "yes() -> B", "yes(){", "yes()|", "yes()=", "A -> B yes()",
)

# A way's number, messages that are heard by it, and the form that is told of them.
HEARD = (
    (0, "yes()", ("yes()", " yes ( ) ", "\tyes\n(\n)\n", "# a remark ()\nyes#(\n(#)\n)# yes", "yes()" + " " * 4091,
                  "#" * 4090 + "\nyes()")),
    (1, "no(0, true)[K]", ("no(0,true)[K]", "no ( 0 , true ) [ K ]", "no(0, true)[K]#")),
    (1, "no(9, false)[K]", ("no(9, false)[K]", "no(9,#9\nfalse)[K]")),
    (2, 'all("", -1, false, "")[K, L]', ('all("",-1,false,"")[K,L]', 'all ( "" , -1 , false , "" ) [ K , L ]')),
    (2, 'all("\\"\\n", 1, true, "")[K, L]', ('all("\\"\\n", 1, true, "")[K, L]', 'all("\\x22\\x0a", 1, true, "")[K, L]')),
    (2, 'all("~\\x7f", 0, true, "")[K, L]', ('all("\\x7e\x7f", 0, true, "")[K, L]', 'all("~\\x7f",0,true,"")[K,L]')),
    (3, "pair()[L, K]", ("pair()[L, K]", "pair()[L,K]")),
)


class NoMessages(unittest.TestCase):
    def test_each(self):
        for text in NO_MESSAGES:
            told = run_of(CODE, [], STATUS, hear(text), STATUS, TOLD, SLOTS)
            self.assertEqual(told[1:], [[-9], told[0], [0], [1, 1, 49]], text[:60])

    def test_every_reserved_word_as_label_and_as_seat(self):
        for word in ("script parties seat of start end both flag num text part stop send recv program for def if pick any"
                     " set go true false").split():
            self.assertEqual(run_of(CODE, [], hear(f"{word}()"), hear(f"yes()[{word}]")), [[-9], [-9]])
            self.assertEqual(run_of(CODE, [], hear(f"{word}1()"), hear(f"yes()[{word}1]")), [[-11], [-14]])

    def test_words_of_instructions_are_names(self):
        for word in ("push", "get", "op", "jump", "skip", "recv1", "code", "add", "len"):
            self.assertEqual(run_of(CODE, [], hear(f"{word}()")), [[-11]])
            self.assertEqual(run_of(HEAD + f"recv a <- b {{ {word}() 1 }}; stop;", [], hear(f"{word}()")), [[0]])

    def test_the_longest_text(self):
        self.assertEqual(run_of(CODE, [], hear("yes()" + " " * 4091)), [[0]])
        self.assertEqual(run_of(CODE, [], hear("yes()" + " " * 4092)), [[-9]])
        self.assertEqual(run_of(CODE, [], hear("yes()#" + "\xff" * 4090)), [[0]])


class Heard(unittest.TestCase):
    def test_by_its_way(self):
        for number, form, texts in HEARD:
            for text in texts:
                told = run_of(CODE, [], hear(text), TOLD, STATUS)
                self.assertEqual(told, [[number], [1, 2] + sized(form), [0, number + 2, 1]], text[:60])

    def test_the_values_are_more_slots_behind_the_others(self):
        self.assertEqual(values_of(run_of(CODE, [], hear("no(7, false)[K]"), SLOTS)[1]), ["1", "7", "false"])
        self.assertEqual(values_of(run_of(CODE, [], hear('all("ab", 0, true, "")[K, L]'), SLOTS)[1]),
                         ["1", '"ab"', "0", "true", '""'])
        self.assertEqual(values_of(run_of(CODE, [], hear("yes()"), SLOTS)[1]), ["1"])

    def test_the_last_of_16_ways(self):
        ways = " , ".join(f"w{k}(num {k} {k}) {k + 1}" for k in range(16))
        code = HEAD + f"recv a <- b {{ {ways} }};" + "stop;" * 16
        for number in range(16):
            told = run_of(code, [], hear(f"w{number}({number + 1})"), hear(f"w{number}({number})"), STATUS)
            self.assertEqual(told, [[-13], [number], [0, number + 1, 0]])

    def test_again_and_again(self):
        code = HEAD + "recv a <- b { on(num 0 9) 1 , off() 3 }; get 0; go 4(num 0 9); stop; send b -> a ok(0); go 0();"
        told = run_of(code, [], hear("on(3)"), SLOTS, SEND, SLOTS, hear("on(4)"), SLOTS, SEND, hear("off()"), STATUS, TOLD)
        self.assertEqual([values_of(told[k]) for k in (1, 3, 5)], [["3"], [], ["4"]])
        self.assertEqual([told[k] for k in (0, 4, 7, 8)], [[0], [0], [1], [0, 3, 6]])
        self.assertEqual(messages_of(told[9]), [(2, "on(3)"), (1, "ok()"), (2, "on(4)"), (1, "ok()"), (2, "off()")])

    def test_up_to_32_slots(self):
        code = HEAD + "any 0 9;" * 28 + "recv a <- b { c(num 0 9, flag, text 1, num 0 9) 29 }; stop;"
        told = run_of(code, [], hear('c(5, true, "x", 6)'), SLOTS)
        self.assertEqual(values_of(told[1]), ["0"] * 28 + ["5", "true", '"x"', "6"])


class Refused(unittest.TestCase):
    def refused(self, text, number):
        told = run_of(CODE, [], STATUS, SLOTS, hear(text), STATUS, SLOTS, TOLD, hear("yes()"))
        self.assertEqual(told[2:], [[number], told[0], told[1], [0], [0]], text)

    def test_no_way_has_its_label(self):
        for text in ("maybe()", "Yes()", "yes1()", "ye()", "no1(0, true)[K]", "A()", "K()", "maybe(1, 2)[A]"):
            self.refused(text, -11)

    def test_not_as_many_values(self):
        for text in ("yes(1)", "yes(1, 2, 3, 4)", "no()[K]", "no(1)[K]", "no(1, true, 2)[K]", "pair(0)[L, K]",
                     'all("", 0, true)[K, L]'):
            self.refused(text, -12)

    def test_one_does_not_fit(self):
        for values in ("10, true", "-1, true", "true, true", '"", true', "1, 1", '1, ""', "true, 1", "1, 0",
                       "1000000000, false"):
            self.refused(f"no({values})[K]", -13)
        for values in ('"abc", 0, true, ""', '"", -2, true, ""', '"", 2, true, ""', '"", 0, 0, ""', '"", 0, true, "x"',
                       '0, 0, true, ""', '"", "", true, ""', '"", 0, true, 0', '"", false, true, ""'):
            self.refused(f"all({values})[K, L]", -13)

    def test_other_handed_seats(self):
        for text in ("yes()[K]", "yes()[K, L]", "no(1, true)", "no(1, true)[L]", "no(1, true)[k]", "no(1, true)[K, L]",
                     "no(1, true)[L, K]", 'all("", 0, true, "")', 'all("", 0, true, "")[K]', 'all("", 0, true, "")[L, K]',
                     'all("", 0, true, "")[L]', "pair()[K, L]", "pair()", "pair()[K]"):
            self.refused(text, -14)

    def test_seats_that_code_could_not_hand(self):
        # Twice the same, and the worker: messages all the same, for only code's own names are looked at.
        for text in ("yes()[K, K]", "yes()[W]", "no(1, true)[K, K]", "no(1, true)[W, K]", "no(1, true)[A]"):
            self.refused(text, -14)

    def test_the_first_of_several(self):
        self.refused("maybe(1, 2, 3, 4, 5)[K]", -9)
        self.refused("maybe(99)[]", -9)
        self.refused("no(99)[L, M, N]", -9)
        self.refused("maybe(99)[L]", -11)
        self.refused("no(99)[L]", -12)
        self.refused("no(99)[K]", -12)
        self.refused("no(1, true, 2)", -12)
        self.refused("no(99, true)[L]", -13)
        self.refused("no(1, 1)", -13)

    def test_where_status_is_not_2(self):
        cases = ("stop;", "send a -> b yes(0); stop;", "push 1; go 2(num 2 2); stop;")
        for instructions in cases:
            for text in ("yes()", "no(99)", "", "(", "x" * 4097, "yes(1, 2, 3, 4, 5)"):
                told = run_of(HEAD + instructions, [], STATUS, hear(text), STATUS, TOLD)
                self.assertEqual(told[1:], [[-8], told[0], [0]])

    def test_refused_messages_are_as_if_never_said(self):
        wrong = ("", "maybe()", "no()", "no(99, true)[K]", "no(1, true)", "yes()[K]")
        plain = run_of(CODE, [], hear("no(1, true)[K]"), STATUS, SLOTS, TOLD)
        told = run_of(CODE, [], *[hear(text) for text in wrong * 20], SEND, hear("no(1, true)[K]"), STATUS, SLOTS, TOLD)
        self.assertEqual(told[:121], [[-9], [-11], [-12], [-13], [-14], [-14]] * 20 + [[-8]])
        self.assertEqual(told[121:], plain)


if __name__ == "__main__":
    unittest.main()
