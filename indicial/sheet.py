"""Lines of a worksheet, and the texts of spaces and power products."""

from indicial.errors import NoText, Refused
from indicial.packing import are_small, is_word
from indicial.products import factors_text
from indicial.text import read_function, read_operator, show_function

# A line and a full text have at most so many characters.
LONGEST = 2000

# The least and the greatest number of texts behind the first word.
COUNTS = {
    "let": (1, 1), "apply": (2, 2), "multiply": (2, 2), "divide": (2, 2), "common": (2, 2),
    "multiple": (2, 2), "equal": (2, 2), "solve": (1, 6), "products": (1, 1),
}

# The first text stands for an operator; with these words the others stand for functions.
WITH_FUNCTIONS = ("apply", "solve")


def is_name(value):
    """Return True for a name: a word of at least 2 letters that begins no line of its own."""
    return is_word(value) and len(value) > 1 and value not in COUNTS


def full_text(names, text):
    """Return the text with the full texts of its names in place of them."""
    found = expanded(names, text)
    refuse_long(found)
    return found


def expanded(names, text):
    """Return the text with the full texts of its names in place of them, of any length."""
    pieces = pieces_of(text)
    if any([len(piece) > 1 and piece not in names for piece in pieces]):
        raise Refused("name")
    return "".join([f"({names[piece]})" if len(piece) > 1 else piece for piece in pieces])


def refuse_long(full):
    """Raise Refused for a full text with too many characters."""
    if len(full) > LONGEST:
        raise Refused("long")


def pieces_of(text):
    """Return the list of the longest runs of small letters and, each by itself, the other characters."""
    found = []
    last = ""
    for here in text:
        if len(last) > 0 and are_small(last + here):
            found[-1] = found[-1] + here
        else:
            found.append(here)
        last = here
    return found


def read_line(names, line, *, name="x"):
    """Return what a line says: its first word, and the operators and functions behind it."""
    word, target, texts = form_of(line)
    fulls = [expanded(names, text) for text, _ in texts]
    for full in fulls:
        refuse_long(full)
    operands = []
    for (_, at), full in zip(texts, fulls):
        behind = len(operands) > 0 and word in WITH_FUNCTIONS
        operands.append(operand_at(at, full, behind, name))
    if word == "let":
        return word, target, fulls[0]
    return (word,) + tuple(operands)


def operand_at(at, full, behind, name):
    """Return the operator or the function of a full text; what is no text is at this index of the line."""
    try:
        if behind:
            return read_function(full, name=name)
        return read_operator(full, name=name)
    except NoText:
        raise NoText(at) from None


def definition_of(names, line):
    """Return the pair of a name and its full text for a `let` line that can be read, None for other lines."""
    word, target, texts = form_of(line)
    if word != "let":
        return None
    return target, full_text(names, texts[0][0])


def form_of(line):
    """Return (word, target, texts) of a line.

    The word is "empty" for lines without one, the target is the name that is defined, and the texts
    are pairs of a text and the index at which it begins.
    """
    if not is_line(line):
        raise NoText(0)
    inside = line.strip(" ")
    if inside == "" or inside.startswith("#"):
        return "empty", "", []
    word = inside.partition(" ")[0]
    start = line.find(word) + len(word)
    target = ""
    if word == "let":
        target = line[start:].partition("=")[0]
        start = start + len(target) + 1
    texts = texts_from(line, start)
    if not are_texts(word, texts) or (word == "let" and not is_name(target.strip(" "))):
        raise NoText(0)
    return word, target.strip(" "), texts


def is_line(value):
    """Return True for a string that is not too long, of characters that may stand in a line."""
    if not isinstance(value, str) or len(value) > LONGEST:
        return False
    # 37 is the percent sign.
    return all([" " <= here <= "~" and ord(here) != 37 for here in value])


def texts_from(line, start):
    """Return the pairs of the texts between the semicolons behind an index, and where they begin."""
    parts = line[start:].split(";")
    found = []
    at = start
    for part in parts:
        found.append((part.strip(" "), at + len(part) - len(part.lstrip(" "))))
        at = at + len(part) + 1
    return found


def are_texts(word, texts):
    """Return True if as many texts as the word asks for stand behind it, none of them empty."""
    least, most = COUNTS.get(word, (1, 0))
    if not least <= len(texts) <= most:
        return False
    return all([text != "" and "=" not in text for text, _ in texts])


def space_text(space, *, name="x"):
    """Return the text of a space."""
    if len(space) == 0:
        return "0"
    return " ".join([pair_text(ys, cs, name) for ys, cs in space])


def pair_text(ys, cs, name):
    """Return the text of a pair of functions and numbers."""
    functions = [show_function(f, name=name) for f in ys]
    numbers = [str(number) for number in cs]
    inside = " ; ".join(functions + numbers)
    return f"[{inside}]"


def product_text(product, *, name="x"):
    """Return the text of a power product."""
    return factors_text(list(product), name)
