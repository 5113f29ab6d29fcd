"""Plain data: integers, words and tuples; their written form, and the packed forms of objects."""

from indicial.errors import Malformed, NoText
from indicial.integers import decimal, number_of
from indicial.operator import Operator
from indicial.poly import Poly
from indicial.products import PowerProduct
from indicial.ratfun import RatFun
from indicial.ratio import Ratio, is_integer
from indicial.spaces import Space

# Tuples are nested at most this deep; a word has at most so many letters.
DEPTH = 60
LETTERS = 12


def packed(value):
    """Return the packed form of a value."""
    return packed_within(value, DEPTH)


def packed_within(value, room):
    """Return the packed form, nested at most `room` deep."""
    if room == 0:
        raise Malformed("the packed form is nested too deep")
    if is_integer(value):
        return ("i", value)
    if is_word(value):
        return ("w", value)
    if isinstance(value, Ratio):
        return ("r", value.n, value.d)
    tag, numbers, parts = parts_of(value)
    return (tag,) + numbers + tuple([packed_within(part, room - 1) for part in parts])


def parts_of(value):
    """Return (tag, numbers, parts) of a value with parts that are packed themselves."""
    if isinstance(value, tuple):
        return "t", (), value
    if isinstance(value, Poly):
        return "p", (), value.row
    if isinstance(value, RatFun):
        return "f", (), (value.num, value.den)
    if isinstance(value, Operator):
        return "o", (), value.coefficients
    if isinstance(value, PowerProduct):
        return "e", (), tuple(value)
    if isinstance(value, Space):
        return "s", (value.size, value.sides), tuple(value)
    raise Malformed("the value has no packed form")


def unpacked(data):
    """Return the object whose packed form is `data`."""
    if not is_plain(data, DEPTH):
        raise Malformed("the value is no plain data")
    found = unpacked_parts(data)
    # A form that is not the one of its object: a fraction not in lowest terms, zeros at the end ..
    if packed(found) != data:
        raise Malformed("the data are not the packed form of an object")
    return found


def unpacked_parts(data):
    """Return the object that plain data describe, also if its packed form is another one."""
    if not isinstance(data, tuple) or len(data) == 0:
        raise Malformed("a packed form begins with a word")
    tag = data[0]
    if tag in ("i", "w", "r"):
        return unpacked_leaf(tag, data[1:])
    if tag == "s":
        return unpacked_space(data)
    parts = [unpacked_parts(part) for part in data[1:]]
    if tag == "t":
        return tuple(parts)
    if tag == "p" and are_of_class(parts, "r", data):
        return Poly(parts)
    if tag == "o" and are_of_class(parts, "f", data):
        return Operator(parts)
    if tag == "f" and are_of_class(parts, "p", data) and len(parts) == 2 and not parts[1].is_zero():
        return RatFun(parts[0], parts[1])
    if tag == "e" and all([are_two_numbers(part) for part in parts]):
        return PowerProduct(parts)
    raise Malformed("the data describe no object")


def unpacked_leaf(tag, items):
    """Return the integer, word or number with these items behind its tag."""
    if tag == "w" and len(items) == 1 and is_word(items[0]):
        return items[0]
    if tag == "i" and len(items) == 1 and is_integer(items[0]):
        return items[0]
    if tag == "r" and len(items) == 2 and all([is_integer(item) for item in items]) and items[1] != 0:
        return Ratio(items[0], items[1])
    raise Malformed("the data describe no number and no word")


def unpacked_space(data):
    """Return the space that plain data describe."""
    if len(data) < 3:
        raise Malformed("a packed space tells its size and its sides")
    return Space([unpacked_parts(part) for part in data[3:]], size=data[1], sides=data[2])


def are_of_class(parts, tag, data):
    """Return True if all unpacked parts have this tag in the data."""
    return all([part[0] == tag for part in data[1:]])


def are_two_numbers(value):
    """Return True for a pair of numbers."""
    return isinstance(value, tuple) and len(value) == 2 and all([isinstance(item, Ratio) for item in value])


def is_word(value):
    """Return True for a string of 1 to 12 small letters."""
    if not isinstance(value, str) or not 1 <= len(value) <= LETTERS:
        return False
    return are_small(value)


def are_small(text):
    """Return True if the string has no characters but small letters."""
    return all(["a" <= here <= "z" for here in text])


def is_plain(value, room):
    """Return True for plain data, nested at most `room` deep."""
    if is_integer(value) or is_word(value):
        return True
    if not isinstance(value, tuple) or room == 0:
        return False
    return all([is_plain(item, room - 1) for item in value])


def written(data):
    """Return the written form of plain data."""
    if not is_plain(data, DEPTH):
        raise Malformed("the value is no plain data")
    return written_parts(data)


def written_parts(data):
    """Return the written form of what is known to be plain data."""
    if isinstance(data, tuple):
        inside = " ".join([written_parts(item) for item in data])
        return f"({inside})"
    if isinstance(data, str):
        return data
    return decimal(data)


def read_data(text):
    """Return the plain data with this written form."""
    if not isinstance(text, str):
        raise NoText(0)
    # The items of each tuple that is not closed yet; those of the first list are in none.
    pending = [[]]
    place = "item"
    at = 0
    while at < len(text):
        here = text[at]
        if place == "behind":
            place = place_behind(here, at, pending)
        elif here == "(" and len(pending) <= DEPTH:
            pending.append([])
            place = "first"
        elif here == ")" and place == "first":
            place = "behind"
        else:
            end = leaf_end(text, at)
            pending[-1].append(leaf_of(text[at:end]))
            place = "behind"
            at = end - 1
        if here == ")":
            items = pending.pop()
            pending[-1].append(tuple(items))
        at = at + 1
    if place != "behind" or len(pending) > 1:
        raise NoText(len(text))
    return pending[0][0]


def place_behind(here, at, pending):
    """Return the place after a space or a closing parenthesis, which alone may stand behind an item."""
    if len(pending) == 1 or here not in (" ", ")"):
        raise NoText(at)
    return "item" if here == " " else "behind"


def leaf_end(text, at):
    """Return the index behind the word or the integer that begins at an index."""
    end = at
    if "a" <= text[at] <= "z":
        while end < min(len(text), at + LETTERS) and "a" <= text[end] <= "z":
            end = end + 1
        return end
    if text[at] == "0":
        return at + 1
    if text[at] == "-":
        end = at + 1
    if end == len(text) or text[end] not in "123456789":
        raise NoText(end)
    while end < len(text) and text[end] in "0123456789":
        end = end + 1
    return end


def leaf_of(text):
    """Return the word or the integer with this written form."""
    if are_small(text):
        return text
    if text.startswith("-"):
        return -number_of(text[1:])
    return number_of(text)
