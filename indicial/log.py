"""Logs: lists of entries, their written form, and the first entry that is not right."""

from indicial.errors import Malformed, NoText
from indicial.packing import is_word, packed, read_data, unpacked, written
from indicial.replies import Reply, is_right, names_behind


def write_log(entries):
    """Return the written form of a list of entries."""
    return "".join([entry_text(entry) for entry in entries])


def entry_text(entry):
    """Return the three lines of an entry."""
    if not isinstance(entry, tuple) or len(entry) != 2:
        raise Malformed("an entry is a pair of a line and a reply")
    line, reply = entry
    if not is_one_line(line) or not isinstance(reply, Reply):
        raise Malformed("an entry is a pair of a line and a reply")
    if not is_word(reply.kind) or not is_one_line(reply.text) or not isinstance(reply.data, tuple):
        raise Malformed("the reply cannot be written")
    return f"> {line}\n= {reply.kind} {reply.text}\n# {written(packed(reply.data))}\n"


def is_one_line(value):
    """Return True for a string without a line feed."""
    return isinstance(value, str) and "\n" not in value


def read_log(text):
    """Return the list of the entries with this written form."""
    if not isinstance(text, str):
        raise NoText(0)
    lines = text.split("\n")
    rest = lines.pop()
    entries = [entry_from(lines, at) for at in range(0, len(lines), 3)]
    if rest != "":
        raise NoText(len(lines))
    return entries


def entry_from(lines, at):
    """Return the entry whose three lines begin at an index of the lines that end with a line feed."""
    line = body_of(lines, at, "> ")
    kind, space, text = body_of(lines, at + 1, "= ").partition(" ")
    if space == "" or not is_word(kind):
        raise NoText(at + 1)
    return line, Reply(kind, text, data_from(body_of(lines, at + 2, "# "), at + 2))


def body_of(lines, at, start):
    """Return what stands behind the start of a line."""
    if at >= len(lines) or not lines[at].startswith(start):
        raise NoText(at)
    return lines[at][len(start):]


def data_from(text, at):
    """Return the tuple with this written packed form, for the line at this index."""
    try:
        data = unpacked(read_data(text))
    except (NoText, Malformed):
        raise NoText(at) from None
    if not isinstance(data, tuple):
        raise NoText(at)
    return data


def first_wrong(entries, *, name="x"):
    """Return the index of the first entry that is not right, or -1."""
    names = {}
    for at, entry in enumerate(entries):
        if not is_right(names, entry, name=name):
            return at
        names = names_behind(names, entry[0], entry[1])
    return -1
