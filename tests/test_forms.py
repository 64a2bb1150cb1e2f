import unittest

from helper import ASK, HEAD, SHOWN, ask, asked_of, form_of, load, raw

TOP = "code T for W\n"

# What is written, and its one form.
FORMS = (
    ("push true;", "push true ;"),
    ("push false;", "push false ;"),
    ("push 0;", "push 0 ;"),
    ("push-17;", "push -17 ;"),
    ("push 1000000000;", "push 1000000000 ;"),
    ('push"";', 'push "" ;'),
    ('push "a b";', 'push "a b" ;'),
    ('push "\\x41\\x0a\\x22\\x5c\\x7e\\x7f\\x1f\\x20";', 'push "A\\n\\"\\\\~\\x7f\\x1f " ;'),
    ("get 0;", "get 0 ;"),
    ("get 31;", "get 31 ;"),
    ("op add;", "op add ;"),
    ("jump 12;", "jump 12 ;"),
    ("skip 0;", "skip 0 ;"),
    ("if 1000000000;", "if 1000000000 ;"),
    ("set 3 flag;", "set 3 flag ;"),
    ("set 3 num-1 5;", "set 3 num -1 5 ;"),
    ("set 31 text 255;", "set 31 text 255 ;"),
    ("set 0 text 0;", "set 0 text 0 ;"),
    ("any-5-4;", "any -5 -4 ;"),
    ("any 0\n9;", "any 0 9 ;"),
    ("pick 3;", "pick 3 ;"),
    ("pick 1,2 , 3;", "pick 1, 2, 3 ;"),
    ("go 4();", "go 4() ;"),
    ("go 4 ( );", "go 4() ;"),
    ("go 4 ( flag );", "go 4(flag) ;"),
    ("go 4(flag,num 0 9,text 3);", "go 4(flag, num 0 9, text 3) ;"),
    ("send a->b c(0);", "send a -> b c(0) ;"),
    ("send a -> b c ( 4 ) [ d ];", "send a -> b c(4)[d] ;"),
    ("send a -> b c(1)[d,e];", "send a -> b c(1)[d, e] ;"),
    ("recv a<-b{c()0};", "recv a <- b { c() 0 } ;"),
    ("recv a<-b{c(flag)[d]7};", "recv a <- b { c(flag)[d] 7 } ;"),
    ("recv a<-b{c ( num 1 2,text 3 ) [ d , e ] 7,f()8,g()[h]9};",
     "recv a <- b { c(num 1 2, text 3)[d, e] 7 , f() 8 , g()[h] 9 } ;"),
    ("stop;", "stop ;"),
)


class OneForm(unittest.TestCase):
    def test_each_instruction(self):
        for written, form in FORMS:
            self.assertEqual(form_of(HEAD + written), TOP + form + "\n", written)

    def test_every_operation(self):
        for word in ("neg abs not len digits add sub mul div mod min max lt le eq and or join first rest at").split():
            self.assertEqual(form_of(HEAD + f"op {word};"), f"{TOP}op {word} ;\n")

    def test_the_one_form_is_its_own(self):
        for written, form in FORMS:
            self.assertEqual(form_of(TOP + form + "\n"), TOP + form + "\n")

    def test_all_in_one(self):
        together = TOP + "".join(form + "\n" for written, form in FORMS)
        self.assertEqual(form_of(HEAD + "".join(written for written, form in FORMS)), together)
        self.assertEqual(form_of(together), together)

    def test_title_and_worker(self):
        self.assertEqual(form_of("code code for push stop;"), "code code for push\nstop ;\n")
        self.assertEqual(form_of("code Ask\nfor\tA9 # who\nstop;"), "code Ask for A9\nstop ;\n")

    def test_the_worked_code(self):
        self.assertEqual(form_of(ASK), ASK)
        squeezed = ASK.replace(" ;\n", ";").replace(", ", ",").replace(" -> ", "->").replace(" } ", "}")
        self.assertNotEqual(squeezed, ASK)
        self.assertEqual(form_of(squeezed), ASK)

    def test_longest_form_is_read_again(self):
        text = HEAD + "stop;" * 583
        form = form_of(text)
        self.assertEqual(len(form), 4094)
        self.assertEqual(form_of(form), form)

    def test_quoted_text_of_255_bytes_is_read_again(self):
        form = form_of(HEAD + 'push "' + "\xfe" * 255 + '";')
        self.assertEqual(form, TOP + 'push "' + "\\xfe" * 255 + '" ;\n')
        self.assertEqual(form_of(form), form)

    def test_shown_twice_and_verified_or_not(self):
        for text in (ASK, HEAD + "jump 7;"):
            first, second = asked_of(text, SHOWN, SHOWN)
            self.assertEqual(first, second)

    def test_shown_of_the_shown_in_one_list(self):
        first = asked_of(ASK, SHOWN)[0]
        told = ask(load(ASK), SHOWN, [0] + first, SHOWN)
        self.assertEqual(told, [[1], first, [1], first])
        self.assertEqual(first, [213] + raw(ASK))


if __name__ == "__main__":
    unittest.main()
