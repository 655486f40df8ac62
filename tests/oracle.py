"""Another way to tell the texts of numbers and expressions, by patterns from the inside out."""

import re
from fractions import Fraction

NAME = re.compile("[a-z][a-z0-9]{0,7}")
NUMBER = re.compile("-?[0-9]+(/[0-9]+)?")
CALL = re.compile(r"(sum|times|late|every|spread)\(([^()]*)\)")
MARK = re.compile("<([0-9]+)>")


class Beyond(Exception):
    """The text is that of no expression."""


def number_in(text):
    """The Fraction with this text, or None."""
    if not NUMBER.fullmatch(text) or re.fullmatch(".*/0+", text):
        return None
    fraction = Fraction(text)
    return fraction if str(fraction) == text else None


def expression_in(text):
    """A tuple (parts, depth, names) of the expression with this text, or None."""
    if "<" in text or ">" in text:
        return None
    found = []

    def put(match):
        found.append(_made(match.group(1), match.group(2).split(", "), found))
        return f"<{len(found) - 1}>"

    try:
        before = None
        while before != text:
            before, text = text, CALL.sub(put, text)
        return _inside(text, found)
    except Beyond:
        return None


def _made(word, arguments, found):
    if word == "sum":
        if len(arguments) > 5:
            raise Beyond
        return _joined([_inside(argument, found) for argument in arguments])
    if len(arguments) != 2:
        raise Beyond
    if word == "times":
        number = number_in(arguments[0])
        if number is None or abs(number.numerator) > 99 or number.denominator > 99:
            raise Beyond
        return _joined([_inside(arguments[1], found)])
    if arguments[1] not in ("0123456" if word == "late" else "123456") or len(arguments[1]) != 1:
        raise Beyond
    return _joined([_inside(arguments[0], found)])


def _inside(text, found):
    if NAME.fullmatch(text):
        return (1, 1, (text,))
    mark = MARK.fullmatch(text)
    if not mark:
        raise Beyond
    return found[int(mark.group(1))]


def _joined(inner):
    parts = 1 + sum(part for part, _, _ in inner)
    depth = 1 + max(depth for _, depth, _ in inner)
    if parts > 12 or depth > 5:
        raise Beyond
    return (parts, depth, tuple(sorted({name for _, _, names in inner for name in names})))
