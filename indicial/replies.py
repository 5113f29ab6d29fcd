"""Replies to the lines of a worksheet, and which of them are right."""

from indicial.checker import takes
from indicial.common import left_multiple, right_divisor
from indicial.errors import NoText, Refused, ZeroDivisor
from indicial.papers import make_paper
from indicial.products import power_products
from indicial.sheet import definition_of, product_text, read_line, space_text
from indicial.text import show_function, show_operator


class Reply:
    """What a line is answered: a kind, a text and data."""

    def __init__(self, kind, text="", data=()):
        self.kind = kind
        self.text = text
        self.data = data

    def __eq__(self, other):
        return (isinstance(other, Reply) and self.kind == other.kind and self.text == other.text
                and self.data == other.data)


def reply_to(names, line, *, name="x"):
    """Return the reply to a line."""
    try:
        return answer(read_line(names, line, name=name), name)
    except NoText as place:
        return Reply("error", f"text {place.at}")
    except Refused as refusal:
        return Reply("error", f"refused {refusal.reason}")
    except ZeroDivisor:
        return Reply("error", "zero")


def answer(parts, name):
    """Return the reply to a line that has been read."""
    word = parts[0]
    if word == "solve":
        space, paper = make_paper(parts[1], parts[2:])
        return Reply("space", space_text(space, name=name), (space, paper))
    if word == "products":
        pairs = power_products(parts[1])
        return Reply("products", " , ".join([member_text(pair, name) for pair in pairs]), pairs)
    if word in ("let", "empty"):
        return Reply("done")
    return combined(word, parts[1], parts[2], name)


def member_text(pair, name):
    """Return the text of a power product and its space."""
    return f"{product_text(pair[0], name=name)} : {space_text(pair[1], name=name)}"


def combined(word, a, b, name):
    """Return the reply to a line with two operands."""
    if word == "apply":
        image = a(b)
        return Reply("function", show_function(image, name=name), (image,))
    if word == "equal":
        return Reply("equal", "yes" if a == b else "no")
    if word == "divide":
        found = a.divide(b)
        return Reply("operators", " , ".join([show_operator(op, name=name) for op in found]), found)
    if word == "multiply":
        joint = a * b
    elif word == "common":
        joint = right_divisor(a, b)[0]
    else:
        joint = left_multiple(a, b)[0]
    return Reply("operator", show_operator(joint, name=name), (joint,))


def is_right(names, entry, *, name="x"):
    """Return True if the entry, a line and its reply, is right over these definitions."""
    if not isinstance(entry, tuple) or len(entry) != 2 or not isinstance(entry[1], Reply):
        return False
    line, reply = entry
    parts = parts_to_solve(names, line, name)
    if parts is None:
        return reply == reply_to(names, line, name=name)
    if reply.kind != "space" or not isinstance(reply.data, tuple) or len(reply.data) != 2:
        return False
    space, paper = reply.data
    return takes(parts[1], parts[2:], space, paper) and reply.text == space_text(space, name=name)


def parts_to_solve(names, line, name):
    """Return the parts of a line that asks for the solutions of an equation, None for other lines."""
    try:
        parts = read_line(names, line, name=name)
    except (NoText, Refused):
        return None
    if parts[0] != "solve" or parts[1].is_zero():
        return None
    return parts


def names_behind(names, line, reply):
    """Return the definitions behind a line with its reply: only a `let` line without an error changes them."""
    if reply.kind != "done":
        return names
    definition = definition_of(names, line)
    if definition is None:
        return names
    found = dict(names)
    found[definition[0]] = definition[1]
    return found
