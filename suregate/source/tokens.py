"""The tokens of a line of a design."""

from suregate.graph.circuit import LETTERS
from suregate.text.lines import DIGITS, is_number

MOST_TOKENS = 200
LONGEST_NAME = 8
TWO_CHARACTER_SIGNS = ("==", "!=", "<=")
ONE_CHARACTER_SIGNS = "=<+-*&|^~?:()[]{},'"


def tokens_of(line):
    """Returns the tokens of a line, or None if there are too many of them or something in it is no token."""
    text, _, _ = line.partition("#")
    tokens = []
    place = 0
    while place < len(text):
        if text[place] == " ":
            place += 1
            continue
        token = _token_at(text, place)
        if token is None:
            return None
        tokens.append(token)
        place += len(token)
    return tokens if len(tokens) <= MOST_TOKENS else None


def is_name_token(token):
    """Tells whether a token is a name; the empty text stands for the end of the line."""
    return token != "" and token[0] in LETTERS


def _token_at(text, place):
    """Returns the token at a place of the text, or None."""
    if text[place] in LETTERS:
        name = _longest_part(text, place, LETTERS + DIGITS)
        return name if len(name) <= LONGEST_NAME else None
    if text[place] in DIGITS:
        number = _longest_part(text, place, DIGITS)
        return number if is_number(number) else None
    if text[place:place + 2] in TWO_CHARACTER_SIGNS:
        return text[place:place + 2]
    return text[place] if text[place] in ONE_CHARACTER_SIGNS else None


def _longest_part(text, place, characters):
    """Returns the part of the text from the place on that consists of these characters, as many as follow."""
    end = place
    while end < len(text) and text[end] in characters:
        end += 1
    return text[place:end]
