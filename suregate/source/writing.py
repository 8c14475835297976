"""Designs written as text."""

SIGNS = {"not": "~", "minus": "-"}


def write_design(design):
    """Returns the text of a design."""
    lines = [f"input {name} {width}\n" for name, width in design.inputs]
    lines += [f"register {name} {width} {start}\n" for name, width, start in design.registers]
    lines += [f"let {name} = {_text_of(expression)}\n" for name, _, expression in design.lets]
    lines += [
        f"next {name} = {_text_of(expression)}\n"
        for (name, _, _), expression in zip(design.registers, design.nexts)]
    lines += [f"output {name} = {_text_of(expression)}\n" for name, _, expression in design.outputs]
    return "".join(lines)


def _text_of(expression):
    """Returns the text of an expression."""
    word = expression[0]
    if word == "name":
        return expression[1]
    if word == "number":
        _, width, value = expression
        return f"{width}'{value}"
    if word == "pick":
        _, part, high, low = expression
        return f"{_text_of(part)}[{high}:{low}]"
    if word == "join":
        return "{" + ", ".join([_text_of(part) for part in expression[1]]) + "}"
    texts = [_text_of(part) for part in expression[1:]]
    if word == "?":
        return f"({texts[0]} ? {texts[1]} : {texts[2]})"
    if word in SIGNS:
        return f"({SIGNS[word]}{texts[0]})"
    return f"({texts[0]} {word} {texts[1]})"
