"""The texts of terms and pairs, written and read.

Nothing here calls itself, so that the depth of a term is bounded by no stack of calls.
"""

from ruleswood.errors import BadText
from ruleswood.terms import MOST_PARTS, is_name

MOST_OPEN = 60
MOST_FIGURES = 3
FIGURES = "0123456789"
LETTERS = "abcdefghijklmnopqrstuvwxyz"
BETWEEN = " = "


def _bracketed(parts):
    """List the parts with the signs round and between them."""
    if not parts:
        return []
    row = ["("]
    for part in parts:
        row.append(part)
        row.append(",")
    row[-1] = ")"
    return row


def shown(term):
    """Return the text of a term."""
    pieces = []
    waiting = [term]
    while waiting:
        piece = waiting.pop()
        if isinstance(piece, str):
            pieces.append(piece)
        elif isinstance(piece, int):
            pieces.append(f"?{piece}")
        else:
            pieces.append(piece[0])
            # The last one that waits is taken first.
            waiting.extend(_bracketed(piece[1:])[::-1])
    return "".join(pieces)


def _behind(text, at, signs):
    """Return the index behind the run of such signs that begins at an index."""
    while at < len(text) and text[at] in signs:
        at += 1
    return at


def _blank(figures):
    if not 1 <= len(figures) <= MOST_FIGURES:
        raise BadText("a blank's number has one to three figures")
    if figures[0] == "0" and figures != "0":
        raise BadText("a blank's number begins with no 0, but for 0 itself")
    return int(figures)


def _leaf(text, at, opened):
    """Read on to the first blank or name without parts, and return it with the index behind it.

    Each name with a bracket on the way begins a list of what stands in that bracket.
    """
    while text[at:at + 1] != "?":
        end = _behind(text, at, LETTERS)
        name = text[at:end]
        # The messages leave out what was read: it may hold characters that are not ASCII.
        if not is_name(name):
            raise BadText("neither a blank nor a name of one to eight small letters")
        if text[end:end + 1] != "(":
            return ((name,), end)
        if len(opened) == MOST_OPEN:
            raise BadText("more than sixty brackets are open at once")
        opened.append([name])
        at = end + 1
    end = _behind(text, at + 1, FIGURES)
    return (_blank(text[at + 1:end]), end)


def read(text):
    """Return the term that a text is of."""
    # For each bracket that is open a list: its name, and the parts that were read.
    opened = []
    part, at = _leaf(text, 0, opened)
    while opened:
        if len(opened[-1]) > MOST_PARTS:
            raise BadText("a name has more than four parts")
        opened[-1].append(part)
        sign = text[at:at + 1]
        if sign == ")":
            part = tuple(opened.pop())
            at += 1
        elif sign == ",":
            part, at = _leaf(text, at + 1, opened)
        else:
            raise BadText("neither a comma nor the end of a bracket behind a part")
    if at != len(text):
        raise BadText("something stands behind the term")
    return part


def shown_pair(left, right):
    """Return the text of a pair."""
    return shown(left) + BETWEEN + shown(right)


def read_pair(text):
    """Return the two terms of the pair that a text is of."""
    sides = text.split(BETWEEN)
    if len(sides) != 2:
        raise BadText("a pair has two sides with = between, one blank sign on either side of it")
    return (read(sides[0]), read(sides[1]))
