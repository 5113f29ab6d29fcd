"""Texts of rational functions and operators: reading and writing them."""

from indicial.errors import NoText, Refused
from indicial.operator import derivation, of_function
from indicial.ratfun import of_ratio, the_variable
from indicial.ratio import Ratio, one

# The bounds of a text.
DIGITS = 100
DEPTH = 40
MINUS = 40
EXPONENT = 30
WEIGHT = 200

# The signs between two operands.
SIGNS = ("+", "-", "*", "/")

# What may stand at a place of a text, and the place behind it.
NEXT = {
    ("operand", "number"): "atom", ("operand", "letter"): "atom",
    ("operand", "("): "operand", ("operand", "-"): "operand",
    ("atom", "^"): "exponent", ("exponent", "-"): "minus",
    ("exponent", "number"): "power", ("minus", "number"): "power",
    ("atom", "+"): "operand", ("atom", "-"): "operand",
    ("atom", "*"): "operand", ("atom", "/"): "operand",
    ("atom", ")"): "atom", ("atom", "end"): "done",
    ("power", "+"): "operand", ("power", "-"): "operand",
    ("power", "*"): "operand", ("power", "/"): "operand",
    ("power", ")"): "atom", ("power", "end"): "done",
}

# A sign comes after the signs before it that have at least its level; "negative" begins a factor.
LEVELS = {"(": 0, ")": 1, "end": 1, "+": 1, "-": 1, "*": 2, "/": 2, "negative": 3}


def read_function(text, *, name="x"):
    """Return the function that a text stands for."""
    return value_of(program_of(text, name), name)[0]


def read_operator(text, *, name="x"):
    """Return the operator that a text stands for."""
    return value_of(program_of(text, name + "D"), name)


def program_of(text, letters):
    """Return the steps that evaluate a text, operands before their node."""
    program = postfix(checked(tokens_of(text, letters)))
    if weight_of(program) > WEIGHT:
        raise NoText(len(text))
    return program


def tokens_of(text, letters):
    """Return the pairs (word, at) of the tokens, with "end" behind them, or "bad" where they stop."""
    found = []
    at = 0
    while at < len(text):
        word = word_at(text, at, letters)
        if word == "bad":
            return found + [("bad", at)]
        if word != " ":
            found.append((word, at))
        at = at + len(word)
    return found + [("end", len(text))]


def word_at(text, at, letters):
    """Return the token or the space at an index, or "bad"."""
    here = text[at]
    if here in "123456789":
        return number_at(text, at)
    if here in letters or here in " 0+-*/^()":
        return here
    return "bad"


def number_at(text, at):
    """Return the longest number that begins at an index."""
    end = at + 1
    while end < len(text) and end - at < DIGITS and text[end] in "0123456789":
        end = end + 1
    return text[at:end]


def checked(tokens):
    """Return the pairs (place, word) of the tokens of a text that follows the grammar."""
    found = []
    place = "operand"
    depth = 0
    minus = 0
    for word, at in tokens:
        after = NEXT.get((place, kind_of(word)))
        if after is None:
            raise NoText(at)
        depth = depth + depth_of(word)
        minus = minus + 1 if place == "operand" and word == "-" else 0
        if not 0 <= depth <= DEPTH or minus > MINUS or (word == "end" and depth > 0):
            raise NoText(at)
        if after == "power" and int(word) > EXPONENT:
            raise NoText(at)
        found.append((place, word))
        place = after
    return found


def kind_of(word):
    """Return "number" or "letter" for those tokens, the word itself for all others."""
    if word.isdigit():
        return "number"
    if len(word) == 1 and word.isalpha():
        return "letter"
    return word


def depth_of(word):
    """Return by how much a token changes the number of open parentheses."""
    if word == "(":
        return 1
    if word == ")":
        return -1
    return 0


def postfix(symbols):
    """Return the steps (word, exponent) of a text, operands before their node, from the left."""
    program = []
    pending = []
    for place, word in symbols:
        if place == "operand":
            if kind_of(word) in ("number", "letter"):
                program.append((word, 0))
            else:
                pending.append("negative" if word == "-" else word)
        elif kind_of(word) == "number":
            program.append(("^", -int(word) if place == "minus" else int(word)))
        elif place != "exponent" and word != "^":
            while len(pending) > 0 and LEVELS[pending[-1]] >= LEVELS[word]:
                program.append((pending.pop(), 0))
            if word == ")":
                pending.pop()
            elif word != "end":
                pending.append(word)
    return program


def weight_of(program):
    """Return the weight of a text, given by its steps."""
    stack = []
    for word, k in program:
        if word in SIGNS:
            right = stack.pop()
            left = stack.pop()
            stack.append(left + right + 1)
        elif word == "negative":
            stack.append(stack.pop() + 1)
        elif word == "^":
            stack.append(stack.pop() * abs(k) + 1)
        else:
            stack.append(len(word))
    return stack.pop()


def value_of(program, name):
    """Return the operator that the steps lead to."""
    stack = []
    for word, k in program:
        if word in SIGNS:
            right = stack.pop()
            left = stack.pop()
            stack.append(joined(left, word, right))
        elif word == "negative":
            stack.append(-stack.pop())
        elif word == "^":
            stack.append(raised(stack.pop(), k))
        else:
            stack.append(operand_of(word, name))
    return stack.pop()


def operand_of(word, name):
    """Return the operator of a number or a letter."""
    if word == name:
        return of_function(the_variable())
    if word == "D":
        return derivation()
    return of_function(of_ratio(Ratio(int(word))))


def joined(left, sign, right):
    """Return the operator of a sum, difference, product or quotient."""
    if sign == "+":
        return left + right
    if sign == "-":
        return left - right
    if sign == "*":
        return left * right
    if not is_function(left) or not is_function(right):
        raise Refused("operator")
    if right.is_zero():
        raise Refused("zero")
    return of_function(left[0] // right[0])


def raised(base, k):
    """Return the power of an operator; only functions have negative powers."""
    if not is_function(base):
        if k < 0:
            raise Refused("operator")
        return base.power(k)
    if k < 0 and base.is_zero():
        raise Refused("zero")
    return of_function(base[0].power(k))


def is_function(operator):
    """Return True for an operator of order 0, or zero."""
    return operator.order() < 1


def show_poly(p, *, name="x"):
    """Return the text of a polynomial."""
    if p.is_zero():
        return "0"
    pairs = list(p.terms())
    parts = []
    for k, number in pairs[::-1]:
        if number.sign() < 0:
            parts.append(" - " if len(parts) > 0 else "-")
        elif len(parts) > 0:
            parts.append(" + ")
        parts.append(term_text(-number if number.sign() < 0 else number, k, name))
    return "".join(parts)


def term_text(number, k, name):
    """Return the text of one term, for a number above 0."""
    if k == 0:
        return str(number)
    power = power_text(name, k)
    if number == one():
        return power
    return f"{str(number)}*{power}"


def power_text(letter, k):
    """Return the text of a power of a letter, for k from 1 on."""
    if k == 1:
        return letter
    return f"{letter}^{k}"


def show_function(f, *, name="x"):
    """Return the text of a function."""
    if f.is_polynomial():
        return show_poly(f.num, name=name)
    return f"{quotient_text(f.num, name)}/{quotient_text(f.den, name)}"


def quotient_text(p, name):
    """Return the text of a polynomial in a quotient: in parentheses unless it has one term."""
    text = show_poly(p, name=name)
    if len(list(p.terms())) > 1:
        return f"({text})"
    return text


def show_operator(op, *, name="x"):
    """Return the text of an operator."""
    parts = []
    for i in range(op.order(), -1, -1):
        if not op[i].is_zero():
            parts.append(coefficient_text(op[i], i, name))
    if len(parts) == 0:
        return "0"
    return " + ".join(parts)


def coefficient_text(f, i, name):
    """Return the text of f D^i."""
    text = show_function(f, name=name)
    if i == 0:
        return f"({text})"
    power = power_text("D", i)
    if f == of_ratio(one()):
        return power
    return f"({text})*{power}"
