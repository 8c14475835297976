"""Designs by chance, and slow ways to read, check and run them."""

import random
import re

TOKEN = re.compile(r"[a-z][a-z0-9]*|[0-9]+|==|!=|<=|[=<+\-*&|^~?:()\[\]{},']")
LEVELS = [["|"], ["^"], ["&"], ["==", "!=", "<", "<="], ["+", "-"], ["*"]]
COMPARISONS = LEVELS[3]


class Fault(Exception):
    """What a line has wrong."""


def slow_tokens(line):
    """Returns the tokens of a line, by one pattern."""
    text = line.split("#")[0]
    tokens = []
    place = 0
    while place < len(text):
        if text[place] == " ":
            place += 1
            continue
        found = TOKEN.match(text, place)
        if found is None:
            raise Fault("word")
        token = found.group()
        if token[0].isdigit() and (len(token) > 6 or (token[0] == "0" and token != "0")):
            raise Fault("word")
        if token[0].isalpha() and len(token) > 8:
            raise Fault("word")
        tokens.append(token)
        place = found.end()
    if len(tokens) > 200:
        raise Fault("word")
    return tokens


class SlowReader:
    """Reads a statement, one function for each level of binding."""

    def __init__(self, tokens):
        self.tokens = tokens
        self.open = []

    def want(self, test):
        if not self.tokens or not test(self.tokens[0]):
            raise Fault("word")
        return self.tokens.pop(0)

    def name(self):
        return self.want(lambda token: token[0].isalpha())

    def number(self):
        return int(self.want(lambda token: token[0].isdigit()))

    def sign(self, sign):
        return self.want(lambda token: token == sign)

    def sees(self, *signs):
        return bool(self.tokens) and self.tokens[0] in signs

    def opening(self):
        self.open.append(self.tokens.pop(0))
        if len(self.open) > 24:
            raise Fault("limit")

    def expression(self):
        test = self.level(0)
        if not self.sees("?"):
            return test
        self.opening()
        yes = self.expression()
        self.sign(":")
        no = self.expression()
        self.open.pop()
        return "?", test, yes, no

    def level(self, number):
        if number == len(LEVELS):
            return self.front()
        left = self.level(number + 1)
        while self.sees(*LEVELS[number]):
            sign = self.tokens.pop(0)
            left = (sign, left, self.level(number + 1))
        return left

    def front(self):
        if not self.sees("~", "-"):
            return self.behind()
        word = "not" if self.tokens[0] == "~" else "minus"
        self.opening()
        part = self.front()
        self.open.pop()
        return word, part

    def behind(self):
        part = self.inner()
        while self.sees("["):
            self.tokens.pop(0)
            numbers = [self.number()]
            if self.sees(":"):
                self.tokens.pop(0)
                numbers.append(self.number())
            self.sign("]")
            part = ("pick", part, numbers[0], numbers[-1])
        return part

    def inner(self):
        if self.sees("(", "{"):
            is_join = self.sees("{")
            self.opening()
            parts = [self.expression()]
            while is_join and self.sees(","):
                self.tokens.pop(0)
                parts.append(self.expression())
            self.sign("}" if is_join else ")")
            self.open.pop()
            return ("join", tuple(parts)) if is_join else parts[0]
        if self.tokens and self.tokens[0][0].isdigit():
            width = self.number()
            self.sign("'")
            return "number", width, self.number()
        return "name", self.name()


def sub_expressions(expression):
    """Returns the parts of an expression, from left to right."""
    if expression[0] == "join":
        return list(expression[1])
    return [part for part in expression[1:] if isinstance(part, tuple)]


def slow_height(expression):
    return max([1 + slow_height(part) for part in sub_expressions(expression)], default=0)


def slow_width(expression, widths):
    """Returns the width of an expression, or raises the first fault of [107] 5."""
    parts = [slow_width(part, widths) for part in sub_expressions(expression)]
    word = expression[0]
    if word == "name":
        if expression[1] not in widths:
            raise Fault("name")
        return widths[expression[1]]
    if word == "number":
        if expression[1] not in range(1, 17) or expression[2] >= 2 ** expression[1]:
            raise Fault("number")
        return expression[1]
    if word == "pick":
        if not expression[3] <= expression[2] < parts[0]:
            raise Fault("number")
        return expression[2] - expression[3] + 1
    if word == "join":
        if sum(parts) > 16:
            raise Fault("width")
        return sum(parts)
    if word == "?" and (parts[0] != 1 or parts[1] != parts[2]):
        raise Fault("width")
    if word != "?" and len(set(parts)) != 1:
        raise Fault("width")
    return 1 if word in COMPARISONS else parts[-1]


def slow_read(text):
    """Returns ("fault", line, reason), or the five lists of the design."""
    inputs, registers, lets, nexts, outputs, widths, lines = [], [], [], {}, [], {}, {}
    for line, content in enumerate(text.split("\n"), start=1):
        try:
            tokens = slow_tokens(content)
            if tokens:
                slow_statement(tokens, (inputs, registers, lets, nexts, outputs, widths))
                if len(registers) > len(lines):
                    lines[registers[-1][0]] = line
        except Fault as fault:
            return "fault", line, str(fault)
    for name, _, _ in registers:
        if name not in nexts:
            return "fault", lines[name], "missing"
    return inputs, registers, lets, [nexts[name] for name, _, _ in registers], outputs


def slow_statement(tokens, scope):
    """Adds one statement to the lists, or raises a fault."""
    inputs, registers, lets, nexts, outputs, widths = scope
    reader = SlowReader(tokens)
    word = reader.want(lambda token: token in ("input", "register", "let", "next", "output"))
    name = reader.name()
    numbers, expression = [], None
    if word in ("input", "register"):
        numbers = [reader.number() for _ in range(1 + (word == "register"))]
    else:
        reader.sign("=")
        expression = reader.expression()
    if tokens:
        raise Fault("word")
    if expression is not None and slow_height(expression) > 12:
        raise Fault("limit")
    if word in ("input", "register", "let") and name in widths:
        raise Fault("twice")
    if word == "output" and name in [output[0] for output in outputs]:
        raise Fault("twice")
    if word == "next" and name not in [told[0] for told in registers]:
        raise Fault("name")
    if word == "next" and name in nexts:
        raise Fault("twice")
    if numbers and (numbers[0] not in range(1, 17) or (len(numbers) > 1 and numbers[1] >= 2 ** numbers[0])):
        raise Fault("number")
    width = slow_width(expression, widths) if expression is not None else numbers[0]
    if word == "next" and width != widths[name]:
        raise Fault("width")
    if word == "next":
        nexts[name] = expression
    elif word == "output":
        outputs.append((name, width, expression))
    else:
        widths[name] = width
        {"input": inputs, "register": registers, "let": lets}[word].append(
            (name, width, expression) if word == "let" else (name, *numbers))
    if (sum(told[1] for told in inputs) > 16 or sum(told[1] for told in registers) > 40
            or sum(told[1] for told in outputs) > 32 or len(lets) > 100):
        raise Fault("limit")


def slow_word(expression, words, widths):
    """Returns the word of an expression, with binary digits as text where it is simpler."""
    word = expression[0]
    width = slow_width(expression, widths)
    parts = [slow_word(part, words, widths) for part in sub_expressions(expression)]
    part_widths = [slow_width(part, widths) for part in sub_expressions(expression)]
    if word == "name":
        return words[expression[1]]
    if word == "number":
        return expression[2]
    if word == "pick":
        digits = f"{parts[0]:0{part_widths[0]}b}"[::-1]
        return int(digits[expression[3]:expression[2] + 1][::-1], 2)
    if word == "join":
        return int("".join(f"{part:0{many}b}" for part, many in zip(parts, part_widths)), 2)
    if word == "?":
        return parts[1] if parts[0] else parts[2]
    if word == "not":
        return 2 ** width - 1 - parts[0]
    if word == "minus":
        return (2 ** width - parts[0]) % 2 ** width
    left, right = parts
    results = {
        "|": left | right, "^": left ^ right, "&": left & right, "+": left + right, "-": left - right,
        "*": left * right, "==": left == right, "!=": left != right, "<": left < right, "<=": left <= right}
    return int(results[word]) % 2 ** width


def slow_run(design, course):
    """Returns the words of the outputs as [108] tells it."""
    state = [start for _, _, start in design.registers]
    answers = []
    for row in course:
        widths = {told[0]: told[1] for told in design.inputs + design.registers + design.lets}
        words = dict(zip([told[0] for told in design.inputs + design.registers], list(row) + state))
        for name, _, expression in design.lets:
            words[name] = slow_word(expression, words, widths)
        answers.append([slow_word(expression, words, widths) for _, _, expression in design.outputs])
        state = [slow_word(expression, words, widths) for expression in design.nexts]
    return answers


class Writer:
    """Makes expressions of given widths by chance, and writes them with more or fewer parentheses and spaces."""

    def __init__(self, seed):
        self.chance = random.Random(seed)
        self.widths = {}

    def expression(self, width, height):
        """Returns an expression of this width and at most this height."""
        chance = self.chance
        names = [name for name, many in self.widths.items() if many == width]
        if height == 0 or chance.random() < 0.15:
            if names and chance.random() < 0.8:
                return "name", chance.choice(names)
            return "number", width, chance.choice((0, 2 ** width - 1, chance.randrange(2 ** width)))
        kind = chance.randrange(8)
        if kind == 0 and width == 1:
            other = chance.choice(list(self.widths.values()) + [1, 16])
            return chance.choice(COMPARISONS), self.expression(other, height - 1), self.expression(other, height - 1)
        if kind == 1:
            return chance.choice(("not", "minus")), self.expression(width, height - 1)
        if kind == 2:
            return "?", self.expression(1, height - 1), self.expression(width, height - 1), self.expression(width, height - 1)
        if kind == 3:
            many = chance.randrange(width, 17)
            low = chance.randrange(many - width + 1)
            return "pick", self.expression(many, height - 1), low + width - 1, low
        if kind == 4:
            split = chance.randrange(width)
            parts = [part for part in (split, width - split) if part]
            return "join", tuple(self.expression(part, height - 1) for part in parts)
        sign = chance.choice(("|", "^", "&", "+", "-", "*"))
        return sign, self.expression(width, height - 1), self.expression(width, height - 1)

    def gap(self):
        return self.chance.choice(("", " ", " ", "   "))

    def text(self, expression, level=-1):
        """Returns a text of the expression that stands where this level of binding is wanted."""
        word = expression[0]
        own, text = 10, ""
        if word == "name":
            text = expression[1]
        elif word == "number":
            text = f"{expression[1]}{self.gap()}'{self.gap()}{expression[2]}"
        elif word == "pick":
            _, part, high, low = expression
            numbers = f"{high}" if high == low and self.chance.random() < 0.7 else f"{high}{self.gap()}:{low}"
            own, text = 9, f"{self.text(part, 9)}{self.gap()}[{numbers}{self.gap()}]"
        elif word == "join":
            text = "{" + self.gap() + f"{self.gap()},{self.gap()}".join(self.text(part) for part in expression[1]) + "}"
        elif word in ("not", "minus"):
            own, text = 8, {"not": "~", "minus": "-"}[word] + self.gap() + self.text(expression[1], 8)
        elif word == "?":
            test, yes, no = [self.text(part, at) for part, at in zip(expression[1:], (0, -1, -1))]
            own, text = -1, f"{test}{self.gap()}?{self.gap()}{yes}{self.gap()}:{self.gap()}{no}"
        else:
            own = [number for number, signs in enumerate(LEVELS) if word in signs][0]
            left, right = self.text(expression[1], own), self.text(expression[2], own + 1)
            text = f"{left}{self.gap()}{word}{self.gap()}{right}"
        if own < level or self.chance.random() < 0.05:
            text = f"({self.gap()}{text}{self.gap()})"
        return text

    def design(self, height=3):
        """Returns the text of a design, and the five lists that it says."""
        chance = self.chance
        inputs, registers, lets, outputs, nexts = [], [], [], [], []
        lines = []
        for number in range(chance.randrange(4)):
            width = chance.choice((1, 2, 3, 5))
            inputs.append((f"i{number}", width))
            lines.append(f"input i{number} {width}")
        for number in range(chance.randrange(4)):
            width = chance.choice((1, 2, 4, 13))
            registers.append((f"r{number}", width, chance.randrange(2 ** width)))
            lines.append("register r{} {} {}".format(number, *registers[-1][1:]))
        self.widths = {told[0]: told[1] for told in inputs + registers}
        for number in range(chance.randrange(4)):
            width = chance.choice((1, 1, 2, 4, 13, 16))
            lets.append((f"let{number}", width, self.expression(width, height)))
            lines.append(f"let let{number} = {self.text(lets[-1][2])}")
            self.widths[f"let{number}"] = width
        for name, width, _ in registers:
            nexts.append(self.expression(width, height))
            lines.append(f"next {name} = {self.text(nexts[-1])}")
        for number in range(chance.randrange(4)):
            width = chance.choice((1, 2, 5, 8))
            outputs.append((f"o{number}", width, self.expression(width, height)))
            lines.append(f"output o{number} = {self.text(outputs[-1][2])}")
        for _ in range(chance.randrange(3)):
            lines.insert(chance.randrange(len(lines) + 1), chance.choice(("", "   ", "# a % comment", " #")))
        lines = [line + chance.choice(("", "", " ", "  # more ~")) for line in lines]
        return "\n".join(lines) + chance.choice(("", "\n", "\n\n")), (inputs, registers, lets, nexts, outputs)
