import re
import unittest

from helper import HEAD, ask, load, marked

RESERVED = ("script parties seat of start end both flag num text part stop send recv program for def if pick any set"
            " go true false").split()
OPERATIONS = ("neg abs not len digits add sub mul div mod min max lt le eq and or join first rest at").split()

# Code in which every kind of token stands; one blank between any two tokens.
SAMPLES = (
    "push true ;", "push false ;", "push 5 ;", 'push "a" ;', "get 3 ;", "op lt ;", "jump 4 ;", "skip 4 ;", "if 4 ;",
    "set 3 flag ;", "set 3 num 1 2 ;", "set 3 text 7 ;", "any 1 2 ;", "pick 1 ;", "pick 1 , 2 , 3 ;", "go 3 ( ) ;",
    "go 3 ( flag ) ;", "go 3 ( num 1 2 , text 3 , flag ) ;", "send a -> b c ( 2 ) ;", "send a -> b c ( 2 ) [ d ] ;",
    "send a -> b c ( 2 ) [ d , e ] ;", "recv a <- b { c ( ) 1 } ;", "recv a <- b { c ( flag , num 1 2 ) [ d , e ] 1 } ;",
    "recv a <- b { c ( ) 1 , d ( text 3 ) 2 } ;", "stop ;",
)


def listed(thing, count, between=" , "):
    return between.join([thing] * count)


def labels(count):
    return " , ".join(f"l{number} ( ) 1" for number in range(count))


class FaultCase(unittest.TestCase):
    def assert_fault(self, text, code):
        bare, place = marked(text)
        self.assertEqual(ask(load(bare)), [[0, code, place]], text)

    def assert_code(self, text):
        self.assertEqual(ask(load(text)), [[1]], text)


class NotAllowed(FaultCase):
    def test_samples_are_code(self):
        for sample in SAMPLES:
            self.assert_code(HEAD + sample)

    def test_a_wrong_token_in_the_place_of_each(self):
        tokens_of_all = [(HEAD + sample).split() for sample in SAMPLES]
        for tokens in tokens_of_all:
            for place in range(len(tokens)):
                for wrong in ("!", "="):
                    text = " ".join(tokens[:place] + ["@" + wrong] + tokens[place + 1:])
                    self.assert_fault(text, 3)

    def test_a_wrong_token_ahead_of_each(self):
        for sample in SAMPLES:
            tokens = (HEAD + sample).split()
            for place in range(len(tokens) + 1):
                self.assert_fault(" ".join(tokens[:place] + ["@?"] + tokens[place:]), 3)

    def test_the_end_ahead_of_each_token(self):
        for sample in SAMPLES:
            tokens = (HEAD + sample).split()
            for place in range(len(tokens)):
                text = " ".join(tokens[:place]) + " #"
                self.assertEqual(ask(load(text)), [[0, 3, len(text)]], text)

    def test_each_token_left_out(self):
        # Where the grammar needs a token, the next one stands wrongly.
        for tokens in ("code T for W get 3 ;", "code T for W op lt ;", "code T for W jump 3 ;", "code T for W any 1 2 ;",
                       "code T for W pick 1 ;", "code T for W go 3 ( ) ;", "code T for W send a -> b c ( 2 ) ;"):
            parts = tokens.split()
            for place in range(len(parts) - 1):
                text = " ".join(parts[:place] + parts[place + 1:])
                self.assertEqual(ask(load(text))[0][:2], [0, 3], text)

    def test_the_word_code_is_asked_for(self):
        self.assert_fault("@program T for W stop;", 3)
        self.assert_fault("@T for W stop;", 3)
        self.assert_fault("code T @code W stop;", 3)

    def test_no_instruction(self):
        self.assert_fault("code T for W@", 3)
        self.assert_fault("code T for W @", 3)
        self.assert_fault("code T for W # stop;@", 3)
        self.assert_fault("code T for W @;", 3)

    def test_what_begins_no_instruction(self):
        for token in ("neg", "code", "T", "5", '"push"', "flag", "true", ";", "def", "Push", "->"):
            self.assert_fault(HEAD + "stop; @" + token + " 1;", 3)

    def test_semicolon_behind_each(self):
        self.assert_fault(HEAD + "stop @stop;", 3)
        self.assert_fault(HEAD + "stop; stop@", 3)
        self.assert_fault(HEAD + "stop;@;", 3)
        self.assert_fault(HEAD + "stop@,", 3)

    def test_reserved_words_are_no_names(self):
        for word in RESERVED:
            self.assert_fault(f"code @{word} for W stop;", 3)
            self.assert_fault(f"code T for @{word} stop;", 3)
            self.assert_fault(HEAD + f"send @{word} -> b c(0);", 3)
            self.assert_fault(HEAD + f"send a -> @{word} c(0);", 3)
            self.assert_fault(HEAD + f"send a -> b @{word}(0);", 3)
            self.assert_fault(HEAD + f"send a -> b c(0)[@{word}];", 3)
            self.assert_fault(HEAD + f"send a -> b c(0)[d, @{word}];", 3)
            self.assert_fault(HEAD + f"recv @{word} <- b {{c() 0}};", 3)
            self.assert_fault(HEAD + f"recv a <- @{word} {{c() 0}};", 3)
            self.assert_fault(HEAD + f"recv a <- b {{@{word}() 0}};", 3)
            self.assert_fault(HEAD + f"recv a <- b {{c()[@{word}] 0}};", 3)

    def test_other_words_are_names(self):
        for word in ["code", "push", "get", "op", "jump", "skip"] + OPERATIONS:
            self.assert_code(f"code {word} for {word} send {word} -> b c(0); send a -> {word} c(0);"
                             f" send a -> b {word}(0); recv {word} <- b {{c() 0}}; recv a <- {word} {{{word}() 0}};")
            self.assert_code(f"code T for W send a -> b c(0)[{word}]; recv a <- b {{c()[d, {word}] 0}};")

    def test_operations(self):
        for word in OPERATIONS:
            self.assert_code(HEAD + f"op {word};")
        for token in ("if", "set", "any", "xor", "Neg", "5", '"neg"', ";", "pow", "same", "true"):
            self.assert_fault(HEAD + f"op @{token};", 3)

    def test_values(self):
        for token in ("flag", "a", ";", "(", "->", "num", "text"):
            self.assert_fault(HEAD + f"push @{token};", 3)

    def test_numbers_are_asked_for(self):
        for beginning in ("get", "set", "jump", "skip", "if", "any", "any 1", "pick", "pick 1,", "go", "set 1 num",
                          "set 1 num 1", "set 1 text", "send a -> b c(", "recv a <- b {c()"):
            for token in ("a", '"1"', ";", "true", "flag", "("):
                self.assert_fault(HEAD + f"{beginning} @{token};", 3)

    def test_ranges(self):
        for token in ("bool", "Num", "number", "5", ";", "true", '"flag"'):
            self.assert_fault(HEAD + f"set 0 @{token};", 3)
            self.assert_fault(HEAD + f"go 0(@{token});", 3)
            self.assert_fault(HEAD + f"go 0(flag, @{token});", 3)
            self.assert_fault(HEAD + f"recv a <- b {{c(@{token}) 0}};", 3)
        self.assert_fault(HEAD + "go 0(flag,@);", 3)
        self.assert_fault(HEAD + "go 0(@,);", 3)
        self.assert_fault(HEAD + "go 0(flag @flag);", 3)
        self.assert_fault(HEAD + "set 0 flag@, flag;", 3)

    def test_lists_that_may_not_be_empty(self):
        self.assert_fault(HEAD + "pick @;", 3)
        self.assert_fault(HEAD + "pick 1,@;", 3)
        self.assert_fault(HEAD + "recv a <- b {@};", 3)
        self.assert_fault(HEAD + "recv a <- b {c() 0,@};", 3)
        self.assert_fault(HEAD + "send a -> b c(0)[@];", 3)
        self.assert_fault(HEAD + "send a -> b c(0)[d,@];", 3)
        self.assert_fault(HEAD + "send a -> b c(@);", 3)
        self.assert_fault(HEAD + "recv a <- b {c()[@] 0};", 3)

    def test_arrows_are_not_exchanged(self):
        self.assert_fault(HEAD + "send a @<- b c(0);", 3)
        self.assert_fault(HEAD + "recv a @-> b {c() 0};", 3)

    def test_handed_seats_stand_before_the_spot(self):
        self.assert_fault(HEAD + "recv a <- b {c() 0@[d]};", 3)
        self.assert_fault(HEAD + "go 0()@[d];", 3)


class OneTooMany(FaultCase):
    def test_as_many_as_may_stand(self):
        self.assert_code(HEAD + "pick " + listed("1", 16) + ";")
        self.assert_code(HEAD + "go 1(" + listed("flag", 8) + ");")
        self.assert_code(HEAD + "recv a <- b {" + labels(16) + "};")
        self.assert_code(HEAD + "recv a <- b {c(" + listed("num 0 1", 4) + ") 0};")
        self.assert_code(HEAD + "send a -> b c(0)[d, e];")
        self.assert_code(HEAD + "recv a <- b {c()[d, e] 0};")

    def test_17th_spot(self):
        for spot in ("1", "0", "1000000000", "-1"):
            self.assert_fault(HEAD + "pick " + listed("1", 16) + ", @" + spot + ";", 4)
        self.assert_fault(HEAD + "pick " + listed("1", 16) + ", @1, 2, 3 !", 4)

    def test_ninth_range(self):
        for extent in ("flag", "num 0 1", "text 5", "num", "text -1", "num 2 1"):
            self.assert_fault(HEAD + "go 1(" + listed("flag", 8) + ", @" + extent + ");", 4)

    def test_17th_way(self):
        for way in ("m() 1", "m", "l0() 1", "m !"):
            self.assert_fault(HEAD + "recv a <- b {" + labels(16) + ", @" + way + "};", 4)

    def test_fifth_range(self):
        for extent in ("flag", "num 0 1", "text 5", "num", "text 256"):
            self.assert_fault(HEAD + "recv a <- b {c(" + listed("flag", 4) + ", @" + extent + ") 1};", 4)
        self.assert_fault(HEAD + "recv a <- b {c() 1, d(" + listed("text 1", 4) + ", @flag) 1};", 4)

    def test_third_handed_seat(self):
        for seat in ("f", "W", "d", "code", "f, g"):
            self.assert_fault(HEAD + "send a -> b c(0)[d, e, @" + seat + "];", 4)
            self.assert_fault(HEAD + "recv a <- b {c()[d, e, @" + seat + "] 1};", 4)

    def test_only_where_the_grammar_would_allow_the_token(self):
        for token in ("a", ";", "true", '"1"', "flag"):
            self.assert_fault(HEAD + "pick " + listed("1", 16) + ", @" + token, 3)
        for token in ("1", ")", "true", "a", "Flag"):
            self.assert_fault(HEAD + "go 1(" + listed("flag", 8) + ", @" + token, 3)
            self.assert_fault(HEAD + "recv a <- b {c(" + listed("flag", 4) + ", @" + token, 3)
        for token in ("1", "}", "flag", "stop", "("):
            self.assert_fault(HEAD + "recv a <- b {" + labels(16) + ", @" + token, 3)
        for token in ("1", "]", "flag", "for", "("):
            self.assert_fault(HEAD + "send a -> b c(0)[d, e, @" + token, 3)
            self.assert_fault(HEAD + "recv a <- b {c()[d, e, @" + token, 3)

    def test_without_a_comma(self):
        self.assert_fault(HEAD + "pick " + listed("1", 16) + " @1;", 3)
        self.assert_fault(HEAD + "go 1(" + listed("flag", 8) + " @flag);", 3)
        self.assert_fault(HEAD + "recv a <- b {" + labels(16) + " @m() 1};", 3)
        self.assert_fault(HEAD + "send a -> b c(0)[d, e @f];", 3)

    def test_the_end_behind_the_comma(self):
        self.assert_fault(HEAD + "pick " + listed("1", 16) + ",@", 3)
        self.assert_fault(HEAD + "go 1(" + listed("flag", 8) + ",@", 3)

    def test_a_fault_further_left_comes_first(self):
        self.assert_fault(HEAD + "pick 1, @-1, " + listed("1", 16) + ";", 7)
        self.assert_fault(HEAD + "get @32; pick " + listed("1", 17) + ";", 7)
        self.assert_fault(HEAD + "pick " + listed("1", 16) + ", @1; get 32; !", 4)


class WrongNumber(FaultCase):
    def test_slots(self):
        for number in (0, 1, 30, 31):
            self.assert_code(HEAD + f"get {number}; set {number} flag;")
        for number in (-1, 32, 33, 1000000000, -1000000000):
            self.assert_fault(HEAD + f"get @{number};", 7)
            self.assert_fault(HEAD + f"set @{number} flag;", 7)

    def test_a_wrong_slot_comes_before_what_stands_behind_it(self):
        self.assert_fault(HEAD + "set @32 !", 7)
        self.assert_fault(HEAD + "get @32 !", 7)
        self.assert_fault(HEAD + "set 31 @!", 3)

    def test_spots(self):
        for beginning, ending in (("jump ", ""), ("skip ", ""), ("if ", ""), ("pick ", ""), ("pick 1, ", ", 2"),
                                  ("go ", "()"), ("recv a <- b {c() ", "}"), ("recv a <- b {c() 1, d()[e] ", "}")):
            for spot in (0, 1, 5000, 999999999, 1000000000):
                self.assert_code(HEAD + beginning + str(spot) + ending + ";")
            for spot in (-1, -2, -1000000000):
                self.assert_fault(HEAD + beginning + "@" + str(spot) + ending + ";", 7)

    def test_sent_count(self):
        for count in (0, 1, 2, 3, 4):
            self.assert_code(HEAD + f"send a -> b c({count});")
        for count in (-1, 5, 6, 1000000000):
            self.assert_fault(HEAD + f"send a -> b c(@{count});", 7)

    def test_any(self):
        for bounds in ("0 0", "-1000000000 1000000000", "-5 -5", "5 5", "-6 -5"):
            self.assert_code(HEAD + f"any {bounds};")
        for bounds in ("1 @0", "5 @4", "0 @-1", "-5 @-6", "1000000000 @-1000000000"):
            self.assert_fault(HEAD + f"any {bounds};", 7)

    def test_num(self):
        for bounds in ("0 0", "-1000000000 1000000000", "-5 -5", "-6 -5"):
            self.assert_code(HEAD + f"set 0 num {bounds}; go 0(num {bounds}); recv a <- b {{c(num {bounds}) 0}};")
        for bounds in ("1 @0", "0 @-1", "-5 @-6", "1000000000 @-1000000000"):
            self.assert_fault(HEAD + f"set 0 num {bounds};", 7)
            self.assert_fault(HEAD + f"go 0(flag, num {bounds});", 7)
            self.assert_fault(HEAD + f"recv a <- b {{c(num {bounds}) 0}};", 7)

    def test_both_bounds_are_read_before_they_are_held_together(self):
        self.assert_fault(HEAD + "any 5 @a;", 3)
        self.assert_fault(HEAD + "set 0 num 5 @;", 3)
        self.assert_fault(HEAD + "any 5 @4 !", 7)

    def test_text(self):
        for most in (0, 1, 254, 255):
            self.assert_code(HEAD + f"set 0 text {most}; go 0(text {most}); recv a <- b {{c(text {most}) 0}};")
        for most in (-1, 256, 1000000000, -1000000000):
            self.assert_fault(HEAD + f"set 0 text @{most};", 7)
            self.assert_fault(HEAD + f"go 0(text @{most});", 7)
            self.assert_fault(HEAD + f"recv a <- b {{c(text @{most}) 0}};", 7)


class Names(FaultCase):
    def test_the_same_seat_twice(self):
        self.assert_fault(HEAD + "send a -> @a c(0);", 14)
        self.assert_fault(HEAD + "recv a <- @a {c() 0};", 14)
        self.assert_fault(HEAD + "send W -> @W c(0);", 14)
        self.assert_fault(HEAD + "stop; send a -> b c(0); recv b <- @b {c() 0};", 14)

    def test_seats_that_are_unlike(self):
        self.assert_code(HEAD + "send a -> A c(0); recv a <- A {c() 0}; send a -> b a(0); send a -> b b(0);")
        self.assert_code(HEAD + "recv a <- b {a() 0, b() 0}; send W -> b W(0)[a, b];")

    def test_the_worker_handed(self):
        self.assert_fault(HEAD + "send a -> b c(0)[@W];", 15)
        self.assert_fault(HEAD + "send a -> b c(0)[d, @W];", 15)
        self.assert_fault(HEAD + "send a -> b c(0)[@W, d];", 15)
        self.assert_fault(HEAD + "recv a <- b {c()[@W] 0};", 15)
        self.assert_fault(HEAD + "recv a <- b {c()[d] 0, d()[e, @W] 0};", 15)
        self.assert_code(HEAD + "send a -> b c(0)[w, T]; recv a <- b {c()[T, w] 0};")

    def test_a_seat_handed_twice(self):
        self.assert_fault(HEAD + "send a -> b c(0)[d, @d];", 5)
        self.assert_fault(HEAD + "recv a <- b {c()[d, @d] 0};", 5)
        self.assert_code(HEAD + "send a -> b c(0)[d]; send a -> b c(0)[d]; recv a <- b {c()[d] 0, e()[d, D] 0};")

    def test_the_worker_handed_twice(self):
        self.assert_fault(HEAD + "send a -> b c(0)[@W, W];", 15)

    def test_a_label_twice(self):
        self.assert_fault(HEAD + "recv a <- b {c() 0, @c() 1};", 5)
        self.assert_fault(HEAD + "recv a <- b {c() 0, d() 1, @c(flag) 2};", 5)
        self.assert_code(HEAD + "recv a <- b {c() 0, C() 1}; recv a <- b {c() 0};")
        self.assert_code(HEAD + "recv a <- b {c()[c] 0, d()[c] 0};")

    def test_order_within_send(self):
        self.assert_fault(HEAD + "send a -> @a c(0)[W];", 14)
        self.assert_fault(HEAD + "send a -> @a c(0)[d, d];", 14)
        self.assert_fault(HEAD + "send a -> b c(0)[d, @d]; send a -> a c(0);", 5)

    def test_order_within_recv(self):
        self.assert_fault(HEAD + "recv a <- @a {c()[W] 0, c() 0};", 14)
        self.assert_fault(HEAD + "recv a <- b {c()[@W] 0, c() 0};", 15)
        self.assert_fault(HEAD + "recv a <- b {c() 0, @c()[W] 0};", 5)
        self.assert_fault(HEAD + "recv a <- b {c()[d, @d] 0, c()[W] 0};", 5)
        self.assert_fault(HEAD + "recv a <- b {c() 0, d()[@W] 0, c() 0};", 15)

    def test_instruction_by_instruction(self):
        self.assert_fault(HEAD + "recv a <- b {c() 0, @c() 0}; send a -> a c(0)[W];", 5)
        self.assert_fault(HEAD + "send a -> b c(0)[@W]; recv a <- a {c() 0};", 15)


class FormTooLong(FaultCase):
    def fill(self, length):
        """Code whose one form has as many bytes, in a text that has fewer."""
        text = HEAD + 'push"' + "\xff" * 255 + '";push"' + "\xff" * 255 + '";push"' + "\xff" * 255 + '";'
        form = len("code T for W\n") + 3 * (len('push "" ;\n') + 4 * 255)
        rest = length - form - len('push "" ;\n')
        text += 'push"' + "\xff" * (rest // 4) + "a" * (rest % 4) + '";'
        return text

    def test_4096_bytes(self):
        text = self.fill(4096)
        self.assertLess(len(text), 4096)
        self.assert_code(text)

    def test_4097_bytes(self):
        self.assertEqual(ask(load(self.fill(4097))), [[0, 10, 0]])

    def test_far_beyond(self):
        self.assertEqual(ask(load(HEAD + ('push"' + "\x00" * 255 + '";') * 10)), [[0, 10, 0]])

    def test_blanks_too_make_it_long(self):
        count = 4000 // len("stop;")
        self.assertEqual(ask(load(HEAD + "stop;" * count)), [[0, 10, 0]])
        # 13 bytes and 583 times 7 are 4094.
        self.assert_code(HEAD + "stop;" * 583)
        self.assertEqual(ask(load(HEAD + "stop;" * 584)), [[0, 10, 0]])

    def test_names_come_first(self):
        self.assert_fault(HEAD + "send a -> @a c(0);" + "stop;" * 700, 14)
        self.assert_fault(HEAD + "stop;" * 700 + "send a -> b c(0)[@W];", 15)
        self.assert_fault(HEAD + "stop;" * 700 + "recv a <- b {c() 0, @c() 0};", 5)
        self.assert_fault(HEAD + "stop;" * 700 + "get @32;", 7)


class Order(FaultCase):
    def test_one_behind_another(self):
        # Each text has the faults of those behind it, too.
        long_form = "stop;" * 600
        self.assertEqual(ask(load(HEAD + long_form)), [[0, 10, 0]])
        self.assert_fault(HEAD + "send a -> b c(0)[d, @d];" + long_form, 5)
        self.assert_fault(HEAD + "send a -> b c(0)[@W]; send a -> b c(0)[d, d];" + long_form, 15)
        self.assert_fault(HEAD + "send a -> @a c(0); send a -> b c(0)[W];" + long_form, 14)
        self.assert_fault(HEAD + "send a -> a c(0); get @99;" + long_form, 7)
        self.assert_fault(HEAD + "send a -> a c(0); pick " + listed("1", 16) + ", @1; get 99;" + long_form, 4)
        self.assert_fault(HEAD + "send a -> a c(0); @! pick " + listed("1", 17) + "; get 99;" + long_form, 3)
        self.assert_fault(HEAD + "send a -> a c(0); ! get 99;" + long_form + "@^", 2)
        self.assertEqual(ask(load(HEAD + "! ^ get 99;" + " " * 4096)), [[0, 1, 4096]])

    def test_from_left_to_right(self):
        self.assert_fault(HEAD + "get @99; ! pick " + listed("1", 17) + ";", 7)
        self.assert_fault(HEAD + "pick " + listed("1", 16) + ", @1; ! get 99;", 4)
        self.assert_fault(HEAD + "@! get 99; pick " + listed("1", 17) + ";", 3)

    def test_names_only_where_the_grammar_is_right(self):
        self.assert_fault(HEAD + "send a -> a c(0)@!", 3)
        self.assert_fault(HEAD + "recv a <- a {c() 0, c() @-1};", 7)

    def test_place_behind_remarks_and_blanks(self):
        self.assert_fault("# one\n\tcode T # two\n for W\n\n get # three\n @99;", 7)
        self.assert_fault("# one\n@stop", 3)

    def test_every_sample_is_read_within_any_other(self):
        for first in SAMPLES:
            for second in SAMPLES:
                self.assert_fault(HEAD + first + re.sub(";$", "", second) + "@", 3)


if __name__ == "__main__":
    unittest.main()
