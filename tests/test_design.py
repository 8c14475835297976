"""Promises [102] to [105] and [107]: reading designs, and their faults."""

import random
import re
import unittest

from designs import Writer, slow_read
from helpers import SuregateTest

from suregate.errors import InvalidSource
from suregate.source.design import Design, read_design

BEFORE = "input a 4\ninput b 4\ninput t 1\nregister q 4 9\nlet c = a + b\n"
AFTER = "\nnext q = q\n"


def lists_of(design):
    return design.inputs, design.registers, design.lets, design.nexts, design.outputs


def expression_of(text):
    """Returns the expression that a text is read as, where some names are known."""
    return read_design(BEFORE + f"output y = {text}" + AFTER).outputs[0][2]


class ReadTest(SuregateTest):
    def check_fault(self, line, reason, text):
        self.assert_error(InvalidSource, {"line": line, "reason": reason}, read_design, text)
        self.assertEqual(("fault", line, reason), slow_read(text))

    def check_expression_fault(self, reason, text):
        """Checks the fault of an output's expression, where some names are known."""
        self.check_fault(6, reason, BEFORE + f"output y = {text}" + AFTER)

    def check_read(self, text):
        design = read_design(text)
        self.assertIs(Design, design.__class__)
        self.assertEqual(slow_read(text), lists_of(design))
        return design


class StatementsTest(ReadTest):
    def test_each_statement(self):
        design = self.check_read(
            "input a 4\nregister q 3 5\nlet x = a\nnext q = x[2:0]\noutput y = q\noutput a = x\n")
        self.assertEqual(
            ([("a", 4)], [("q", 3, 5)], [("x", 4, ("name", "a"))], [("pick", ("name", "x"), 2, 0)],
             [("y", 3, ("name", "q")), ("a", 4, ("name", "x"))]), lists_of(design))

    def test_nothing(self):
        for text in ("", "\n", "   ", "#", "# input a\n\n  #  \n", "\n\n\n"):
            self.assertEqual(Design([], [], [], [], []), self.check_read(text))

    def test_comments_and_spaces(self):
        design = self.check_read("  input   a  4# a 4 % \"\\ \t ?\n#\noutput y=a[1]#\n")
        self.assertEqual([("y", 1, ("pick", ("name", "a"), 1, 1))], design.outputs)
        self.assertEqual([("a", 4)], self.check_read("input a 4 # input b 4").inputs)
        self.assertEqual([("a4", 4)], self.check_read("input a4 4").inputs)

    def test_tokens_without_spaces(self):
        self.assertEqual(("+", ("name", "a"), ("name", "b")), expression_of("a+b"))
        self.assertEqual(("number", 4, 13), expression_of("4'13"))
        self.assertEqual(("number", 4, 13), expression_of("4 '  13"))
        self.assertEqual(("pick", ("name", "a"), 3, 0), expression_of("a  [ 3 : 0 ]"))
        # A number and a name side by side are two tokens, and so are a statement's word and what follows a digit.
        self.check_fault(1, "word", "input a4")
        self.check_fault(1, "word", "inputa 4")
        self.check_fault(1, "word", "input 4a")
        self.check_fault(1, "word", "input a 4b")

    def test_two_character_signs(self):
        for sign in ("==", "!=", "<="):
            self.assertEqual((sign, ("name", "a"), ("name", "b")), expression_of(f"a{sign}b"))
            self.check_expression_fault("word", f"a {sign[0]} {sign[1]} b")
        self.assertEqual(("<", ("name", "a"), ("minus", ("name", "b"))), expression_of("a<-b"))
        self.check_expression_fault("word", "a === b")
        self.check_expression_fault("word", "a <== b")
        self.check_expression_fault("word", "a = b")
        self.check_expression_fault("word", "a ! b")
        self.check_expression_fault("word", "!a")
        self.check_expression_fault("word", "a > b")
        self.check_expression_fault("word", "a >= b")
        self.check_fault(1, "word", "let x == 4'1")

    def test_characters_that_belong_to_no_token(self):
        for character in "!%$@\"\\/;._`>A\tZ\r\x00\xe9\u0660":
            self.check_fault(1, "word", f"input a {character}4")
            self.check_fault(1, "word", f"input a 4{character}")
            self.check_fault(1, "word", f"input a{character} 4")
            self.check_fault(2, "word", f"input a 4\n{character}\n")
            # Behind a # any character may stand.
            self.assertEqual([("a", 4)], read_design(f"input a 4 #{character}").inputs)

    def test_long_names_and_numbers(self):
        self.assertEqual([("abcdefg8", 4)], self.check_read("input abcdefg8 4").inputs)
        self.check_fault(1, "word", "input abcdefgh9 4")
        self.check_fault(1, "word", "input a0123456789 4")
        self.check_fault(1, "number", "input a 999999")
        self.check_fault(1, "word", "input a 1000000")
        self.check_fault(1, "word", "input a 04")
        self.check_fault(1, "word", "input a 00")
        self.check_fault(1, "number", "input a 0")
        self.check_fault(1, "word", "input a 0000004")
        self.check_expression_fault("word", "4'01")
        self.check_expression_fault("word", "04'1")
        self.assertEqual(("number", 4, 0), expression_of("4'0"))

    def test_number_of_tokens(self):
        # 3 tokens, braces with 33 tokens, and picks with 3 tokens each; the picks make the expression too high.
        bits = "output y = {" + ",".join(["t"] * 16) + "}"
        for count, more, reason in ((54, "", "limit"), (54, "[", "word"), (54, "[0", "word"), (55, "", "word"), (65, "", "word")):
            self.check_fault(6, reason, BEFORE + bits + "[0]" * count + more + AFTER)
        # 200 tokens, and 201: another reason, for the line is too long before anything else.
        sum_of_98 = "output y = " + "+".join(["a"] * 98)
        self.check_fault(6, "limit", BEFORE + sum_of_98 + AFTER)
        self.check_fault(6, "limit", BEFORE + sum_of_98.replace("= a", "= ~-a") + AFTER)
        self.check_fault(6, "word", BEFORE + sum_of_98.replace("= a", "= ~-~a") + AFTER)

    def test_lines_of_200_tokens(self):
        # A balanced sum in parentheses: 3 tokens, 50 names, and 49 times two parentheses and a sign.
        def total(low, high):
            if high - low == 1:
                return "a"
            middle = (low + high) // 2
            return f"({total(low, middle)}+{total(middle, high)})"

        text = "output y = " + total(0, 50)
        self.assertEqual((50, 49 * 3), (text.count("a"), len(text) - len("output y = ") - 50))
        self.assertEqual(1, len(self.check_read(BEFORE + text + AFTER).outputs))
        self.check_read(BEFORE + text + " # a a a" + AFTER)
        self.check_fault(6, "word", BEFORE + text.replace("a+a", "a+~a", 1) + AFTER)
        # Too many tokens are told ahead of what they would mean.
        self.check_fault(1, "word", "input a 4" + " a" * 197)
        self.check_fault(1, "word", "input a 4" + " a" * 198)

    def test_words_of_statements_as_names(self):
        design = self.check_read(
            "input input 4\nregister register 4 1\nlet let = input\nregister next 4 0\nlet output = next\n"
            "next register = let\nnext next = output\noutput output = register\noutput input = input + output\n")
        self.assertEqual([("input", 4)], design.inputs)
        self.assertEqual(["register", "next"], [name for name, _, _ in design.registers])
        self.assertEqual([("name", "let"), ("name", "output")], design.nexts)
        self.assertEqual(["output", "input"], [name for name, _, _ in design.outputs])

    def test_lines_that_are_no_statement(self):
        for line in (
                "input", "input a", "input a b", "input 4 4", "input a 4 4", "input a = 4", "input a 4 ,", "inputs a 4",
                "register q", "register q 4", "register q 4 x", "register q 4 1 1", "register 4 4 1", "let", "let x",
                "let x =", "let x 4'1", "let x = = a", "let 4 = a", "let x = 4'1 4'1", "let x = 4", "let x = 4'",
                "let x = '4", "let x = ()", "let x = (a", "let x = a)", "let x = {}", "let x = {a", "let x = {a,}",
                "let x = {,a}", "let x = a[", "let x = a[1", "let x = a[]", "let x = a[1:]", "let x = a[:1]",
                "let x = a[b]", "let x = a[1:b]", "let x = a[1:0:0]", "let x = a ? b", "let x = a ? b :", "let x = a : b",
                "let x = ? a : b", "let x = a +", "let x = + a", "let x = a * * a", "let x = a ~ a", "let x = ~", "let x = -",
                "let x = a ~", "let x = a , b", "let x = [1]", "let x = a b", "a = b", "= a", "4", "next = a", "next a",
                "output = a", "lets x = 4'1", "nexts q = 4'1", "outputs y = 4'1", "inputs x = 4'1", "a x = 4'1",
                "output y", "output y a", "(", "let x = a]", "let x = a}", "let x = (a}", "let x = {a)"):
            self.check_fault(1, "word", line)
            self.check_fault(3, "word", "\n\n" + line + "\ninput a 4")

    def test_names(self):
        self.check_fault(1, "name", "let x = x")
        self.check_fault(1, "name", "let x = y\nlet y = 4'1")
        self.check_fault(3, "name", "let x = 1'1\nlet y = x\nlet z = x & y & z\n")
        # An output is no name for expressions, and a let no register.
        self.check_fault(2, "name", "output y = 4'1\noutput z = y")
        self.check_fault(2, "name", "let q = 4'1\nnext q = q")
        self.check_fault(2, "name", "input q 4\nnext q = q")
        self.check_fault(1, "name", "next q = 4'1\nregister q 4 0")

    def test_twice(self):
        for first in ("input a 4", "register a 4 0", "let a = 4'1"):
            for second in ("input a 4", "register a 4 0", "let a = 4'1"):
                self.check_fault(2, "twice", first + "\n" + second)
        self.check_fault(2, "twice", "output a = 4'1\noutput a = 3'1")
        self.check_fault(3, "twice", "register a 4 0\nnext a = a\nnext a = a")
        self.check_read("input a 4\nregister b 4 0\nlet c = a\noutput a = a\noutput b = b\noutput c = c\nnext b = b\n")

    def test_numbers_of_statements(self):
        for width in (0, 17, 100, 999999):
            self.check_fault(1, "number", f"input a {width}")
            self.check_fault(1, "number", f"register a {width} 0")
        for width, start in ((1, 2), (4, 16), (4, 999999), (16, 65536)):
            self.check_fault(1, "number", f"register a {width} {start}")
        for width in (1, 4, 16):
            design = self.check_read(f"register a {width} {2 ** width - 1}\nnext a = a\ninput b {width}")
            self.assertEqual([("a", width, 2 ** width - 1)], design.registers)

    def test_limits_of_bits(self):
        self.check_read("input a 16\n")
        self.check_read("input a 15\ninput b 1\n")
        self.check_fault(2, "limit", "input a 16\ninput b 1\n")
        self.check_fault(3, "limit", "input a 10\ninput b 6\ninput c 1\ninput d 40\n")
        nexts = "next a = a\nnext b = b\nnext c = c\n"
        self.check_read("register a 16 0\nregister b 16 0\nregister c 8 0\n" + nexts)
        self.check_fault(3, "limit", "register a 16 0\nregister b 16 0\nregister c 9 0\n" + nexts)
        self.check_fault(4, "limit", "register a 16 0\nregister b 16 0\nregister c 8 0\nregister d 1 0\n")
        self.check_read("output a = 16'0\noutput b = 16'0\n")
        self.check_fault(3, "limit", "output a = 16'0\noutput b = 16'0\noutput c = 1'0")
        self.check_read("input a 16\nregister b 16 0\noutput a = a\nnext b = a\nlet c = a\nlet d = a\nlet e = a")

    def test_limit_of_lets(self):
        lines = [f"let x{k} = 16'{k}" for k in range(101)]
        self.assertEqual(100, len(self.check_read("\n".join(lines[:100])).lets))
        self.check_fault(101, "limit", "\n".join(lines))

    def test_missing_next_values(self):
        self.check_fault(1, "missing", "register a 4 0")
        self.check_fault(2, "missing", "\nregister a 4 0\nregister b 4 0\nnext b = a")
        self.check_fault(3, "missing", "\nregister b 4 0\nregister a 4 0\nnext b = a\n\n\n")
        # Any other fault is told ahead of it.
        self.check_fault(3, "twice", "register a 4 0\ninput b 1\ninput b 1")

    def test_next_values_in_the_order_of_registers(self):
        design = self.check_read("register a 4 0\nnext a = 4'1\nregister b 2 0\nregister c 4 0\nnext c = a\nnext b = 2'3")
        self.assertEqual([("number", 4, 1), ("number", 2, 3), ("name", "a")], design.nexts)
        # A next value may be given before a later register, and a register may be read before it has one.
        self.assertEqual([("name", "q")], self.check_read("register q 4 0\nlet x = q\nnext q = q").nexts)

    def test_two_faults_in_one_line(self):
        # Of a line that cannot be read, nothing else is told.
        self.check_fault(2, "word", "input a 4\ninput a 17 x")
        self.check_fault(2, "word", "input a 4\nlet a = nothing +")
        high = "+".join(["a"] * 14)
        self.check_fault(2, "limit", f"input a 4\nlet a = {high}")
        self.check_fault(2, "limit", f"input a 4\nnext b = {high}")
        self.check_fault(2, "limit", f"input a 4\nlet x = {high.replace('a', 'nothing')}")
        self.check_fault(2, "twice", "input a 4\ninput a 17")
        self.check_fault(2, "twice", "input a 4\nregister a 4 99")
        self.check_fault(2, "twice", "input a 4\nlet a = nothing")
        self.check_fault(2, "twice", "output y = 1'1\noutput y = nothing")
        self.check_fault(1, "name", "next q = nothing & 17'0")
        self.check_fault(3, "twice", "register q 4 0\nnext q = q\nnext q = 17'0")
        self.check_fault(2, "number", "register q 4 0\nnext q = 17'0")
        self.check_fault(2, "width", "register q 4 0\nnext q = 3'0")
        self.check_fault(2, "number", "input a 16\ninput b 17")
        self.check_fault(2, "number", "input a 16\nregister b 4 16")
        self.check_fault(3, "width", "output a = 16'0\noutput b = 16'0\noutput c = 1'0 + 2'0")

    def test_faults_in_two_lines(self):
        self.check_fault(1, "number", "input a 17\ninput\n")
        self.check_fault(2, "name", "input a 4\nlet x = b\nlet y = %\n")
        self.check_fault(2, "word", "register q 4 0\n%")


class ExpressionsTest(ReadTest):
    def test_each_kind(self):
        self.assertEqual(("name", "a"), expression_of("a"))
        self.assertEqual(("number", 16, 65535), expression_of("16'65535"))
        self.assertEqual(("pick", ("name", "a"), 2, 1), expression_of("a[2:1]"))
        self.assertEqual(("pick", ("name", "a"), 2, 2), expression_of("a[2]"))
        self.assertEqual(("join", (("name", "a"),)), expression_of("{a}"))
        self.assertEqual(("join", (("name", "a"), ("name", "t"), ("number", 2, 1))), expression_of("{a, t, 2'1}"))
        self.assertEqual(("not", ("name", "a")), expression_of("~a"))
        self.assertEqual(("minus", ("name", "a")), expression_of("-a"))
        self.assertEqual(("?", ("name", "t"), ("name", "a"), ("name", "b")), expression_of("t ? a : b"))
        for sign in ("|", "^", "&", "+", "-", "*", "==", "!=", "<", "<="):
            self.assertEqual((sign, ("name", "a"), ("name", "b")), expression_of(f"a {sign} b"))

    def test_parentheses_leave_no_trace(self):
        for text in ("(a)", "((a))", "(((((a)))))"):
            self.assertEqual(("name", "a"), expression_of(text))
        self.assertEqual(expression_of("a + b"), expression_of("((a) + (b))"))

    def test_binding(self):
        # Each sign binds more strongly than all before it; in both orders.
        levels = [["|"], ["^"], ["&"], ["==", "!=", "<", "<="], ["+", "-"], ["*"]]
        for weak, signs in enumerate(levels):
            for strong in levels[weak + 1:]:
                for one in signs:
                    for two in strong:
                        self.check_same(f"a {one} b {two} c", f"a {one} (b {two} c)")
                        self.check_same(f"a {two} b {one} c", f"(a {two} b) {one} c")

    def check_same(self, one, other):
        """Checks that two texts are read as the same expression; with names of one bit all signs go together."""
        names = "input a 1\ninput b 1\ninput c 1\ninput d 1\noutput y = "
        self.assertEqual(read_design(names + one), read_design(names + other))
        self.assertEqual(slow_read(names + one), slow_read(names + other))

    def test_association_to_the_left(self):
        for signs in (["|"], ["^"], ["&"], ["==", "!=", "<", "<="], ["+", "-"], ["*"]):
            for one in signs:
                for two in signs:
                    self.check_same(f"a {one} b {two} c", f"(a {one} b) {two} c")
        self.assertNotEqual(expression_of("a - (b - c)"), expression_of("a - b - c"))

    def test_signs_in_front(self):
        self.check_same("~a & b", "(~a) & b")
        self.check_same("-a * b", "(-a) * b")
        self.check_same("a * -b", "a * (-b)")
        self.check_same("a - -b", "a - (-b)")
        self.check_same("a--b", "a - (-b)")
        self.check_same("~-~a", "~(-(~(a)))")
        self.check_same("~a[0]", "~(a[0])")
        self.check_same("-{a}[0]", "-({a}[0])")
        self.assertEqual(("not", ("pick", ("name", "a"), 3, 0)), expression_of("~a[3:0]"))

    def test_picks_behind_picks(self):
        self.assertEqual(
            ("pick", ("pick", ("pick", ("name", "a"), 3, 1), 1, 0), 1, 1), expression_of("a[3:1][1:0][1]"))
        self.assertEqual(("pick", ("number", 4, 13), 3, 2), expression_of("4'13[3:2]"))
        self.assertEqual(("pick", ("+", ("name", "a"), ("name", "b")), 3, 3), expression_of("(a + b)[3]"))
        self.assertEqual(("pick", ("join", (("name", "a"), ("name", "b"))), 7, 0), expression_of("{a, b}[7:0]"))

    def test_choices(self):
        self.check_same("a ? b : c ? d : a", "a ? b : (c ? d : a)")
        self.check_same("a ? b ? c : d : a", "a ? (b ? c : d) : a")
        self.check_same("a | b ? c | d : d | a", "(a | b) ? (c | d) : (d | a)")
        self.check_same("(a ? b : c) ? d : a", "(a ? b : c) ? d : a")
        self.check_same("a ? b : c | d", "a ? b : (c | d)")
        self.check_same("a ? b : c ? d : a ? b : c", "a ? b : (c ? d : (a ? b : c))")
        self.assertNotEqual(expression_of("(t ? t : t) ? t : t"), expression_of("t ? t : t ? t : t"))
        self.assertEqual(
            ("join", (("?", ("name", "t"), ("name", "a"), ("name", "b")), ("name", "t"))), expression_of("{t ? a : b, t}"))

    def test_height(self):
        # A name has the height 0; each sign adds one.
        self.assertEqual("+", expression_of("+".join(["a"] * 13))[0])
        self.check_expression_fault("limit", "+".join(["a"] * 14))
        self.assertEqual("pick", expression_of("{a,a}" + "[7:0]" * 11)[0])
        self.check_expression_fault("limit", "{a,a}" + "[7:0]" * 12)
        self.assertEqual("not", expression_of("~" * 12 + "a")[0])
        self.check_expression_fault("limit", "~" * 13 + "a")
        self.assertEqual("join", expression_of("{" * 12 + "a" + "}" * 12)[0])
        self.check_expression_fault("limit", "{" * 13 + "a" + "}" * 13)
        self.assertEqual("?", expression_of("t?t:" * 12 + "t")[0])
        self.check_expression_fault("limit", "t?t:" * 13 + "t")
        # The greatest height of the parts counts, wherever it is.
        deep = "+".join(["a"] * 13)
        self.check_expression_fault("limit", f"b + ({deep})")
        self.check_expression_fault("limit", f"t ? {deep} : a")
        self.check_expression_fault("limit", "{t, a, " + deep + ", a}")
        self.assertEqual("+", expression_of("(" * 24 + "a+b" + ")" * 24)[0])

    def test_open_parts(self):
        self.assertEqual(("name", "t"), expression_of("(" * 24 + "t" + ")" * 24))
        self.check_expression_fault("limit", "(" * 25 + "t" + ")" * 25)
        # Of the other kinds, 24 make an expression too high; so what is told for a wrong word behind them shows it.
        for opening in ("(", "{", "~", "-", "t?t:", "t?"):
            self.check_expression_fault("word", opening * 24 + "+")
            self.check_expression_fault("limit", opening * 25 + "+")
            self.check_expression_fault("word", "(" * 12 + opening * 12 + "+")
            self.check_expression_fault("limit", opening * 12 + "(" * 13 + "+")
            self.check_expression_fault("word", "(" * 24 + "a[+")

    def test_parts_that_are_closed_again(self):
        # In braces, many parts are opened and closed one after the other; then as many as before can be open.
        for part, count in (("(t)", 15), ("{t}", 15), ("~t", 15), ("-t", 15), ("t?t:t", 15), ("(t?{~t}:-t)", 5)):
            many = "{" + ",".join([part] * count) + "}[0]"
            self.assertEqual("pick", expression_of(many)[0])
            for opening in ("(", "{", "~", "-", "t?t:", "t?"):
                self.check_expression_fault("word", f"{many} & " + opening * 24 + "+")
                self.check_expression_fault("limit", f"{many} & " + opening * 25 + "+")

    def test_open_parts_and_wrong_words(self):
        # What is met first is told; but all tokens are found before.
        self.check_expression_fault("limit", "(" * 25 + "+")
        self.check_expression_fault("limit", "(" * 25)
        self.check_expression_fault("limit", "~" * 25 + ")")
        self.check_expression_fault("word", "(" * 24 + "+")
        self.check_expression_fault("word", "(" * 10 + "a(" + "(" * 30)
        self.check_expression_fault("word", "(" * 25 + "%")
        self.check_expression_fault("word", "(" * 25 + "01")
        self.check_expression_fault("word", "(" * 198)
        self.check_expression_fault("limit", "(" * 197)
        self.check_expression_fault("word", "a ? b : c : " + "(" * 25)

    def test_open_parts_of_all_kinds_together(self):
        # 4 choices, 12 parentheses, 4 braces and 4 signs in front are open at the innermost name.
        text = "t?t:" * 4 + "(" * 12 + "{" * 4 + "~-~-" + "t" + "}" * 4 + ")" * 12
        self.assertEqual("?", expression_of(text)[0])
        for opening in ("(t)", "{t}", "~t", "-t", "(t?t:t)"):
            self.check_expression_fault("limit", text.replace("~-~-t", "~-~-" + opening))
        # What is closed does not count any more, and [ does not count at all.
        self.assertEqual("|", expression_of("|".join(["(" * 24 + "t" + ")" * 24] * 3))[0])
        self.assertEqual("|", expression_of("|".join(["~t"] * 12))[0])
        self.assertEqual("pick", expression_of("(" * 24 + "a[0][0]" + ")" * 24 + "[0][0]")[0])
        self.assertEqual("&", expression_of("(t?t:t)&" * 11 + "t")[0])
        # A choice is open from its ? on, and to the end of what stands behind its colon.
        self.assertEqual("?", expression_of("(" * 23 + "t?t:t" + ")" * 23)[0])
        self.assertEqual("?", expression_of("(" * 24 + "t" + ")" * 24 + "?" + "(" * 23 + "t" + ")" * 23 + ":t")[0])
        self.check_expression_fault("limit", "t ? " + "(" * 24 + "t" + ")" * 24 + ": t")
        self.check_expression_fault("limit", "t ? t : " + "(" * 24 + "t" + ")" * 24)
        self.assertEqual("&", expression_of("(t ? t : t) & " + "(" * 24 + "t" + ")" * 24)[0])

    def test_limit_of_open_parts_is_told_ahead_of_others(self):
        self.check_fault(2, "limit", "input a 4\nlet a = " + "(" * 25 + "nothing" + ")" * 25)
        self.check_fault(1, "limit", "next q = " + "(" * 25 + "1'1" + ")" * 25)

    def test_names_and_numbers(self):
        self.check_expression_fault("name", "nothing")
        self.check_expression_fault("name", "a + nothing")
        self.check_expression_fault("name", "y")
        for text in ("0'0", "17'0", "99'1", "4'16", "1'2", "16'65536", "999999'0", "4'999999"):
            self.check_expression_fault("number", text)
        for text in ("a[4]", "a[4:0]", "a[0:1]", "a[5:4]", "a[999999]", "a[3:1][3]", "4'15[4]", "(a == b)[1]"):
            self.check_expression_fault("number", text)
        for text in ("a[3]", "a[0]", "a[3:3]", "a[3:0]", "a[3:1][2]", "1'1[0]", "{a, b}[7]"):
            self.check_read(BEFORE + f"output y = {text}" + AFTER)

    def test_widths(self):
        for sign in ("|", "^", "&", "+", "-", "*", "==", "!=", "<", "<="):
            self.check_expression_fault("width", f"a {sign} t")
            self.check_expression_fault("width", f"t {sign} a")
            width = 1 if sign in ("==", "!=", "<", "<=") else 4
            self.assertEqual(width, read_design(BEFORE + f"output y = a {sign} b" + AFTER).outputs[0][1])
        for text in ("t ? a : t", "t ? t : a", "a ? a : a", "a[1:0] ? a : b", "{a, b, a, b, t}", "(a < b) + a"):
            self.check_expression_fault("width", text)
        for text, width in (
                ("{a, b, a, b}", 16), ("t ? a : b", 4), ("a < b ? t : t", 1), ("~a", 4), ("-t", 1), ("a[2:1]", 2),
                ("{t}", 1), ("{a, t, a == b}", 6), ("c", 4), ("q", 4), ("9'3", 9), ("{t, t} * 2'3", 2)):
            self.assertEqual(width, read_design(BEFORE + f"output y = {text}" + AFTER).outputs[0][1])

    def test_which_fault_of_an_expression_is_told(self):
        self.check_expression_fault("name", "nothing + 17'0")
        self.check_expression_fault("number", "17'0 + nothing")
        self.check_expression_fault("width", "(a + t) + nothing")
        self.check_expression_fault("name", "nothing[9]")
        self.check_expression_fault("number", "a[9] + (a + t)")
        self.check_expression_fault("width", "a + t + 17'0")
        self.check_expression_fault("number", "a + (t + 17'0)")
        self.check_expression_fault("name", "a ? nothing : 17'0")
        self.check_expression_fault("number", "a ? 17'0 : nothing")
        self.check_expression_fault("width", "(a ? a : b) ? nothing : a")
        self.check_expression_fault("name", "{a, a, a, a, a, nothing}")
        self.check_expression_fault("width", "{a, a, a, a, a}[0:1]")

    def test_designs_by_chance(self):
        for seed in range(200):
            text, lists = Writer(seed).design()
            told = slow_read(text)
            if told[0] == "fault":
                self.check_fault(told[1], told[2], text)
            else:
                self.assertEqual(lists, told)
                self.check_read(text)

    def test_changed_designs(self):
        chance = random.Random(4)
        told = {}
        for seed in range(1200):
            text, _ = Writer(seed).design(2 + seed % 3)
            changed = text
            for _ in range(chance.randrange(1, 3)):
                changed = change_of(chance, changed)
            expected = slow_read(changed)
            if expected[0] == "fault":
                self.check_fault(expected[1], expected[2], changed)
                told[expected[2]] = told.get(expected[2], 0) + 1
            else:
                self.check_read(changed)
                told[None] = told.get(None, 0) + 1
        for reason in (None, "word", "name", "width", "number", "twice", "missing", "limit"):
            self.assertGreater(told.get(reason, 0), 8, told)


def change_of(chance, text):
    """Returns the text of a design with a change: of a few characters, of a token, or of a line."""
    kind = chance.randrange(6)
    if kind == 0:
        pieces = ["(", ")", "{", "}", "[", "]", "?", ":", "~", "-", "+", "==", "a", "4'3", "0", ",", "'", " ", "\n", "#", "%"]
        place = chance.randrange(len(text) + 1)
        return text[:place] + chance.choice(pieces) * chance.randrange(1, 4) + text[place + chance.randrange(3):]
    if kind == 1:
        lines = text.split("\n")
        place = chance.randrange(len(lines))
        return "\n".join(lines[:place] + lines[place:place + 1] * chance.choice((0, 2)) + lines[place + 1:])
    if kind == 2:
        # More in front of the first name of a line's expression.
        more = chance.choice(("~" * 10, "-~" * 13, "(" * 25, "{" * 9, "i0 ? ", "i1 <= ", "1'1 + ", "let0 & "))
        return text.replace("= ", "= " + more, 1) if "= " in text else text + "output y = " + more
    groups = ("[0-9]+", "[a-z]+[0-9]", "[|^&+*<-]|==|<=")
    places = list(re.finditer(groups[kind - 3], text))
    if not places:
        return text
    found = chance.choice(places)
    other = chance.choice(places).group()
    if kind == 3:
        other = chance.choice((other, "0", "1", "16", "17", "2"))
    return text[:found.start()] + other + text[found.end():]


class DesignClassTest(unittest.TestCase):
    def test_equality(self):
        lists = [[("a", 4)], [("q", 2, 1)], [("x", 4, ("name", "a"))], [("name", "q")], [("y", 1, ("number", 1, 1))]]
        design = Design(*lists)
        self.assertTrue(design == Design(*[list(told) for told in lists]))
        for place in range(5):
            different = Design(*[[] if place == other else told for other, told in enumerate(lists)])
            self.assertFalse(design == different)
            self.assertTrue(design != different)
        for other in (tuple(lists), lists, None, 1, "", read_design("")):
            self.assertFalse(design == other)

    def test_fields_are_new_lists(self):
        lists = [[("a", 4)], [("q", 2, 1)], [("x", 4, ("name", "a"))], [("name", "q")], [("y", 1, ("number", 1, 1))]]
        design = Design(*lists)
        for told in lists:
            told.clear()
        self.assertEqual([1] * 5, [len(told) for told in lists_of(design)])

    def test_is_not_checked(self):
        design = Design([("a", 99)], [("a", 0, 7)], [("", 4, ("name", "b"))], [], [("y", 1, ("what",))])
        self.assertEqual([("a", 99)], design.inputs)


if __name__ == "__main__":
    unittest.main()
