"""The text format of codebooks."""

from keptcode.codebooks import DEPTHS, RADIXES, Codebook, first_clash, is_codeword, is_name
from keptcode.errors import ParseError

RESERVED = "-"


def head_line(radix, depth):
    """Return the first line of a codebook."""
    return f"{radix} {depth}"


def format_codebook(book):
    """Return the lines of a codebook, joined by line feeds."""
    words = book.words()
    lines = [head_line(book.radix, book.depth)]
    lines.extend([f"{name} {words[name]}" for name in words])
    lines.extend([f"{RESERVED} {node}" for node in book.reserved()])
    return "\n".join(lines)


def read_head(line):
    """Return the radix and the depth that a first line states, or None."""
    for radix in RADIXES:
        for depth in DEPTHS:
            if line == head_line(radix, depth):
                return radix, depth
    return None


def is_entry(radix, depth, entry):
    """Tell whether the parts of a line are a name or the sign of reserved strings, and a string."""
    if len(entry) != 2:
        return False
    label, node = entry
    return (label == RESERVED or is_name(label)) and is_codeword(radix, depth, node)


def place(entry):
    """Return the key by which the entries of a codebook ascend: names first, then reserved strings."""
    label, node = entry
    return (1, node) if label == RESERVED else (0, label)


def fitting_entries(radix, depth, entries):
    """Return the entries ahead of the first one that has a wrong form or does not ascend."""
    fitting = []
    for entry in entries:
        if not is_entry(radix, depth, entry) or (fitting and place(fitting[-1]) >= place(entry)):
            return fitting
        fitting.append(entry)
    return fitting


def parse_codebook(text):
    """Return the codebook that a text describes."""
    if not isinstance(text, str):
        raise ParseError(0)
    lines = text.split("\n")
    head = read_head(lines[0])
    if head is None:
        raise ParseError(0)
    radix, depth = head
    entries = [line.split(" ") for line in lines[1:]]
    fitting = fitting_entries(radix, depth, entries)
    clash = first_clash([node for label, node in fitting])
    if clash is not None:
        raise ParseError(clash + 1)
    if len(fitting) < len(entries):
        raise ParseError(len(fitting) + 1)
    words = {label: node for label, node in fitting if label != RESERVED}
    return Codebook(radix, depth, words, [node for label, node in fitting if label == RESERVED])
