import unittest

from helper import HEAD, ask, asked_of, form_of, load, marked, SIZES, VERIFY


class TokenCase(unittest.TestCase):
    def assert_fault(self, text, code):
        bare, place = marked(text)
        self.assertEqual(ask(load(bare)), [[0, code, place]], text)

    def assert_no_token(self, text):
        self.assert_fault(text, 2)

    def assert_pushed(self, written, shown):
        self.assertEqual(form_of(HEAD + "push " + written + ";"), f"code T for W\npush {shown} ;\n")


class Length(TokenCase):
    def test_4096_bytes_are_read(self):
        text = HEAD + "stop;"
        self.assertEqual(ask(load(text + " " * (4096 - len(text)))), [[1]])

    def test_4097_bytes_are_fault_1(self):
        text = HEAD + "stop;"
        self.assertEqual(ask(load(text + " " * (4097 - len(text)))), [[0, 1, 4096]])

    def test_nothing_else_is_looked_at(self):
        for length in (4097, 5000, 8192):
            self.assertEqual(ask(load("\x00" * length)), [[0, 1, 4096]])
        self.assertEqual(ask(load("\x00" * 4096)), [[0, 2, 0]])

    def test_empty_text(self):
        self.assertEqual(ask(load("")), [[0, 3, 0]])


class Blanks(TokenCase):
    def test_blanks_separate(self):
        for blank in (" ", "\t", "\n", "# a remark\n", "#\n", " \t\n# x # y\n\n"):
            text = blank + blank.join(["code", "T", "for", "W", "push", "1", ";"]) + blank
            self.assertEqual(form_of(text), "code T for W\npush 1 ;\n")

    def test_no_blanks_where_tokens_end_by_themselves(self):
        self.assertEqual(form_of("code T for W push\"a\";go 1(flag,num-3 4,text 5);send a->b c(0)[d,e];"),
                         "code T for W\npush \"a\" ;\ngo 1(flag, num -3 4, text 5) ;\n"
                         "send a -> b c(0)[d, e] ;\n")

    def test_remark_up_to_the_end(self):
        for remark in ("#", "# x", "#\"", "# \xff \x00 \r ' @", "##"):
            self.assertEqual(ask(load(HEAD + "stop;" + remark)), [[1]])

    def test_remark_ends_at_byte_10_alone(self):
        self.assertEqual(ask(load(HEAD + "stop; # \r push 1;\x0b ^")), [[1]])
        self.assert_no_token(HEAD + "stop; # remark\n@^")

    def test_remark_hides_an_instruction(self):
        self.assertEqual(asked_of(HEAD + "stop; # stop;\n stop;", SIZES)[0][0], 2)

    def test_remark_within_a_word_ends_it(self):
        self.assertEqual(form_of("code T#\nfor W stop;"), "code T for W\nstop ;\n")

    def test_no_remark_within_quotes(self):
        self.assert_pushed('"a # b"', '"a # b"')

    def test_other_bytes_are_no_blanks(self):
        for byte in (0, 8, 11, 12, 13, 31, 127, 160, 255):
            bare, place = marked(HEAD + "@?stop;")
            text = bare.encode("latin-1").replace(b"?", bytes([byte]))
            self.assertEqual(ask(load(text)), [[0, 2, place]])


class Words(TokenCase):
    def test_16_bytes(self):
        for word in ("a" * 16, "Z9" * 8, "b123456789012345"):
            self.assertEqual(form_of(f"code {word} for W stop;"), f"code {word} for W\nstop ;\n")

    def test_17_bytes(self):
        for word in ("a" * 17, "Z9" * 8 + "9", "b1234567890123456", "x" * 300):
            self.assert_no_token(f"code @{word} for W stop;")

    def test_every_letter_and_digit(self):
        for word in ("abcdefghijklm", "nopqrstuvwxyz", "ABCDEFGHIJKLM", "NOPQRSTUVWXYZ", "a0123456789", "aZzA09"):
            self.assertEqual(form_of(f"code {word} for W stop;"), f"code {word} for W\nstop ;\n")

    def test_great_and_small_letters_are_unlike(self):
        for word in ("Stop", "STOP", "Flag", "True", "For"):
            self.assertEqual(form_of(f"code {word} for W stop;"), f"code {word} for W\nstop ;\n")
        self.assert_fault("@Code T for W stop;", 3)
        self.assert_fault(HEAD + "@Stop;", 3)
        self.assert_fault(HEAD + "push @True;", 3)

    def test_neighbours_of_letters_and_digits(self):
        for byte in "@`~/\\^_'$&*+.%":
            text = HEAD + byte + "stop;"
            self.assertEqual(ask(load(text)), [[0, 2, len(HEAD)]], byte)


class Numbers(TokenCase):
    def test_numbers(self):
        for number in ("0", "1", "9", "10", "1234567890"[:9], "-1", "-10", "999999999", "1000000000", "-1000000000"):
            self.assert_pushed(number, number)

    def test_no_numbers(self):
        for number in ("007", "00", "01", "-0", "-00", "-01", "-007", "1000000001", "-1000000001", "2000000000",
                       "9999999999", "10000000000", "00000000000", "-10000000000", "1" * 50, "-", "- 1", "--1", "-a"):
            self.assert_no_token(HEAD + "push @" + number + ";")

    def test_a_very_long_number(self):
        bare, place = marked(HEAD + "push @" + "1" * 4000 + ";")
        self.assertEqual(ask(load(bare)), [[0, 2, place]])

    def test_12ab_is_two_tokens(self):
        self.assert_fault(HEAD + "push 12@ab;", 3)
        self.assertEqual(form_of(HEAD + "recv a<-b{c()12}; send a->b c(0);"),
                         "code T for W\nrecv a <- b { c() 12 } ;\nsend a -> b c(0) ;\n")

    def test_a_minus_1_is_two_tokens(self):
        self.assert_fault("code a@-1 for W stop;", 3)
        self.assertEqual(form_of(HEAD + "any-1 1;"), "code T for W\nany -1 1 ;\n")

    def test_number_behind_a_number(self):
        self.assertEqual(form_of(HEAD + "any-5-3;"), "code T for W\nany -5 -3 ;\n")
        self.assert_fault(HEAD + "push 0@a;", 3)


class Quoted(TokenCase):
    def test_bytes_stand_for_themselves(self):
        self.assert_pushed('""', '""')
        self.assert_pushed('" !#$%&\'()*+,-./09:;<=>?@AZ[]^_`az{|}~"', '" !#$%&\'()*+,-./09:;<=>?@AZ[]^_`az{|}~"')

    def test_bytes_that_are_shown_otherwise(self):
        for byte in list(range(10)) + list(range(11, 32)) + list(range(127, 256)):
            told = form_of((HEAD + 'push "').encode() + bytes([byte]) + b'";')
            self.assertEqual(told, f'code T for W\npush "\\x{byte:02x}" ;\n')

    def test_escapes(self):
        self.assert_pushed(r'"\""', r'"\""')
        self.assert_pushed(r'"\\"', r'"\\"')
        self.assert_pushed(r'"\n"', r'"\n"')
        self.assert_pushed(r'"\\n"', r'"\\n"')
        self.assert_pushed(r'"\"\\\n"', r'"\"\\\n"')

    def test_every_byte_by_its_digits(self):
        for byte in range(256):
            shown = {34: r'\"', 92: r'\\', 10: r'\n'}.get(byte)
            if shown is None:
                shown = chr(byte) if 32 <= byte <= 126 else f"\\x{byte:02x}"
            self.assert_pushed(f'"\\x{byte:02x}"', f'"{shown}"')

    def test_digit_order(self):
        self.assert_pushed(r'"\x1f\xf1a"', r'"\x1f\xf1a"')

    def test_wrong_escapes(self):
        for escape in (r"\t", r"\r", r"\a", r"\0", r"\N", r"\X41", r"\x4", r"\xg0", r"\x0g", r"\xAB", r"\xaB", r"\xFf",
                       r"\x", r"\ ", r"\'", r"\x 1", r"\x-1", "\\\n", r"\x/0", r"\x:0", r"\x`0"):
            self.assert_no_token(HEAD + 'push @"' + escape + '";')
            self.assert_no_token(HEAD + 'push @"ab' + escape + 'yz";')

    def test_no_closing_quote(self):
        for text in ('@"', '@"abc', '@"abc;', '@"abc\\"', '@"\\', '@"\\x', '@"\\x4', '@"\\x41', '@"#x\n"'):
            self.assert_no_token(HEAD + "push " + text)

    def test_byte_10_within(self):
        self.assert_no_token(HEAD + 'push @"a\nb";')
        self.assert_no_token(HEAD + 'push @"\n";')

    def test_255_bytes_told(self):
        for piece in ("a", "\\n", "\\\\", '\\"', "\\x41"):
            self.assertEqual(ask(load(HEAD + 'push "' + piece * 255 + '";')), [[1]])

    def test_256_bytes_told(self):
        for piece in ("a", "\\n", "\\\\", '\\"', "\\x41"):
            self.assert_no_token(HEAD + 'push @"' + piece * 256 + '";')

    def test_quoted_behind_quoted(self):
        self.assert_fault(HEAD + 'push "a"@"b";', 3)


class Signs(TokenCase):
    def test_every_sign_is_a_token(self):
        for sign in ("=", "{", "}", "(", ")", "[", "]", ",", ":", "!", "?", "|", "->", "<-"):
            self.assert_fault(HEAD + "push @" + sign, 3)
        # A token that is none tells a fault before one that is not allowed.
        for sign in ("=", "{", "}", "(", ")", "[", "]", ",", ";", ":", "!", "?", "|", "->", "<-"):
            self.assert_no_token(sign + sign + "@^")

    def test_two_bytes_are_one_sign(self):
        self.assert_no_token(HEAD + "send a @- > b c(0);")
        self.assert_no_token(HEAD + "recv a @< - b {c() 0};")

    def test_less_alone(self):
        for text in ("@<", "@< -", "@<<-", "@<=", "@<>", "@<\n-"):
            self.assert_no_token(HEAD + text)

    def test_greater_alone(self):
        for text in ("@>", "->@>", "<-@>"):
            self.assert_no_token(HEAD + text)

    def test_less_minus_digit(self):
        self.assert_fault(HEAD + "recv a <-@1", 3)

    def test_minus_alone_at_the_end(self):
        self.assert_no_token(HEAD + "stop; @-")

    def test_no_other_byte(self):
        known = set(b' \t\n#"={}()[],;:!?|') | set(b"0123456789")
        known |= set(range(65, 91)) | set(range(97, 123))
        for byte in range(256):
            if byte not in known:
                text = (HEAD + "stop; ").encode() + bytes([byte])
                self.assertEqual(ask(load(text)), [[0, 2, len(HEAD) + 6]], byte)


class WholeText(TokenCase):
    def test_tokens_are_looked_for_before_anything_else(self):
        self.assert_no_token("stop stop stop @^")
        self.assert_no_token(HEAD + "get 99; pick -1; @007")
        self.assert_no_token(HEAD + 'stop; @"')

    def test_first_of_several(self):
        self.assert_no_token("code @^ 007 \"")
        self.assert_no_token("code @007 ^ \"")
        self.assert_no_token("code @\" 007 ^")

    def test_verify_reads_the_same_tokens(self):
        self.assertEqual(asked_of(HEAD + "any-1 1;stop;", VERIFY), [[1, 2, 0, 1]])


if __name__ == "__main__":
    unittest.main()
