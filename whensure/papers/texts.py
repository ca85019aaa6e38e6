"""The texts of papers.

A paper is a pair: the list of its entries and the list of its pieces. An entry is the tuple `("ring", numbers)`, or
`("ends", there, back)` with a list of numbers or None for each of the two chains. A piece is the tuple
`(choice, low, high, below, above)`: choice is a tuple, low and high are lists, below and above are lists or None.
"""

from whensure.integers import Taker, put_sequence, read_integers, write_integers

PAPER_HEAD = "whensure paper"
MOST_DIGITS = 40


def put_optional(out, numbers):
    """Append a sequence of numbers, or None, to the integers of a paper."""
    if numbers is None:
        out.append(0)
    else:
        out.append(1)
        put_sequence(out, numbers)


def put_entry(out, entry):
    """Append the entry of a choice to the integers of a paper."""
    if entry[0] == "ring":
        out.append(0)
        put_sequence(out, entry[1])
    else:
        out.append(1)
        put_optional(out, entry[1])
        put_optional(out, entry[2])


def put_piece(out, piece):
    """Append a piece to the integers of a paper."""
    choice, low, high, below, above = piece
    put_sequence(out, choice)
    put_sequence(out, low)
    put_sequence(out, high)
    put_optional(out, below)
    put_optional(out, above)


def take_optional(taker):
    """Return the list of numbers that comes next, or None."""
    return taker.take_numbers() if taker.take_flag() else None


def take_entry(taker):
    """Return the entry that comes next."""
    if taker.take_flag():
        return ("ends", take_optional(taker), take_optional(taker))
    return ("ring", taker.take_numbers())


def take_piece(taker):
    """Return the piece that comes next."""
    choice = tuple(taker.take_numbers())
    low = taker.take_anys()
    high = taker.take_anys()
    return (choice, low, high, take_optional(taker), take_optional(taker))


def write_paper(paper):
    """Return the text of a paper."""
    entries, pieces = paper
    out = [len(entries)]
    for entry in entries:
        put_entry(out, entry)
    out.append(len(pieces))
    for piece in pieces:
        put_piece(out, piece)
    return write_integers(PAPER_HEAD, out)


def read_paper(text):
    """Return the paper of a text. Raise InvalidText if the text is not that of a paper."""
    taker = Taker(read_integers(PAPER_HEAD, text, MOST_DIGITS))
    entries = [take_entry(taker) for _ in range(taker.take_length())]
    pieces = [take_piece(taker) for _ in range(taker.take_length())]
    taker.take_end()
    return (entries, pieces)
