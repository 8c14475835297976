"""Promises [105] and [110]: designs written as text."""

import unittest

from designs import Writer
from helpers import SuregateTest, plain

from suregate.errors import InvalidSource
from suregate.source.design import Design, read_design
from suregate.source.writing import write_design

BEFORE = "input a 4\ninput t 1\nregister q 4 9\n"
AFTER = "next q = q\n"


class WritingTest(SuregateTest):
    def check(self, design):
        before = plain(design)
        text = write_design(design)
        self.assertEqual(before, plain(design))
        self.assertEqual(design, read_design(text))
        self.assertEqual(text, write_design(read_design(text)))
        return text

    def test_each_statement(self):
        text = (
            "input a 4\ninput t 1\nregister q 4 9\nregister p 16 0\nlet x = a\nlet y = (a + x)\nnext q = x\n"
            "next p = 16'65535\noutput q = q\noutput z = t\n")
        mixed = ["register q 4 9", "input a 4", "register p 16 0", "let x = a", "next p = 16'65535", "output q = q",
                 "input t 1", "let y = a + x", "next q = x", "output z = t"]
        self.assertEqual(text, write_design(read_design("\n".join(mixed))))
        self.assertEqual(text, self.check(read_design(text)))

    def test_nothing(self):
        self.assertEqual("", self.check(Design([], [], [], [], [])))
        self.assertEqual("input a 4\n", self.check(read_design("input   a   4 # a")))

    def test_each_kind_of_expression(self):
        for text, expected in (
                ("a", "a"), ("(a)", "a"), ("4'13", "4'13"), ("a[3:1]", "a[3:1]"), ("a[2]", "a[2:2]"),
                ("4'13[2][0]", "4'13[2:2][0:0]"), ("{a}", "{a}"), ("{a,t ,2'1}", "{a, t, 2'1}"), ("~a", "(~a)"),
                ("-a", "(-a)"), ("~-~a", "(~(-(~a)))"), ("t?a:q", "(t ? a : q)"), ("(a+q)[1:0]", "(a + q)[1:0]"),
                ("(~a)[1:0]", "(~a)[1:0]"), ("~a[1:0]", "(~a[1:0])"), ("{a,q}[4:1]", "{a, q}[4:1]"),
                ("a|q&a", "(a | (q & a))"), ("a==q", "(a == q)"), ("a-q-a", "((a - q) - a)"),
                ("{t?a:q,a*q}", "{(t ? a : q), (a * q)}"), ("t ? t ? a : q : a", "(t ? (t ? a : q) : a)")):
            design = read_design(BEFORE + f"output y = {text}\n" + AFTER)
            self.assertEqual(BEFORE + AFTER + f"output y = {expected}\n", self.check(design))
        for sign in ("|", "^", "&", "==", "!=", "<", "<=", "+", "-", "*"):
            design = read_design(f"input a 4\noutput y = a{sign}a")
            self.assertEqual(f"input a 4\noutput y = (a {sign} a)\n", self.check(design))

    def test_greatest_height(self):
        # Each sign in front and each choice opens two parts, so 24 are open at a height of 12.
        for text in (
                "~" * 12 + "a", "-" * 12 + "a", "t?a:" * 12 + "a", "t?" * 12 + "a" + ":a" * 12,
                "{" * 12 + "a" + "}" * 12, "a" + "[3:0]" * 12, "+".join(["a"] * 13)):
            self.check(read_design(BEFORE + f"output y = {text}\n" + AFTER))

    def test_line_of_more_than_200_tokens(self):
        # 14 parts of 6 names have 185 tokens, and with two parentheses for each sign 140 more.
        terms = "input a 1\noutput y = {" + ",".join(["a&a&a&a&a&a"] * 14) + "}\n"
        design = read_design(terms)
        text = write_design(design)
        self.assertEqual(terms.replace(" ", ""), text.replace(" ", "").replace("(", "").replace(")", ""))
        self.assert_error(InvalidSource, {"line": 2, "reason": "word"}, read_design, text)

    def test_designs_by_chance(self):
        written = 0
        for seed in range(150):
            text, lists = Writer(seed).design(4)
            design = Design(*lists)
            try:
                read_design(write_design(design))
            except InvalidSource as wrong:
                # Only a line that is too long may be refused.
                self.assertEqual("word", wrong.reason)
                continue
            self.check(design)
            written += 1
        self.assertGreater(written, 100)


if __name__ == "__main__":
    unittest.main()
