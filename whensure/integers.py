"""Texts of two lines: words that say what the text is of, and the integers of which the thing consists."""

from whensure.errors import InvalidText


def write_integers(head, integers):
    """Return the text that begins with the line head and has these integers."""
    words = [str(integer) for integer in integers]
    return head + "\n" + " ".join(words) + "\n"


def is_integer(word, most_digits):
    """Tell if a word is an integer as it is written, with at most so many digits."""
    digits = word.removeprefix("-")
    if not (digits.isascii() and digits.isdigit()) or len(digits) > most_digits:
        return False
    return word == "0" or not digits.startswith("0")


def read_integers(head, text, most_digits):
    """Return the integers of a text that begins with the line head. Raise InvalidText if it is none."""
    lines = text.split("\n")
    if len(lines) != 3 or lines[0] != head or lines[2] != "":
        raise InvalidText()
    words = lines[1].split(" ")
    if not all([is_integer(word, most_digits) for word in words]):
        raise InvalidText()
    return [int(word) for word in words]


class Taker:
    """Takes integers one after another; each method raises InvalidText if there is not what it takes."""

    def __init__(self, integers):
        self.integers = integers
        self.taken = 0

    def take_any(self):
        """Return the next integer, whatever its sign."""
        if self.taken == len(self.integers):
            raise InvalidText()
        self.taken += 1
        return self.integers[self.taken - 1]

    def take_number(self):
        """Return the next integer, which must be 0 or greater."""
        integer = self.take_any()
        if integer < 0:
            raise InvalidText()
        return integer

    def take_flag(self):
        """Return True for 1 and False for 0."""
        integer = self.take_any()
        if integer not in (0, 1):
            raise InvalidText()
        return integer == 1

    def take_length(self):
        """Return the length of a sequence."""
        length = self.take_number()
        # Each element needs at least one integer, so a longer sequence cannot be there.
        if length > len(self.integers) - self.taken:
            raise InvalidText()
        return length

    def take_anys(self):
        """Return the list of a sequence of integers, whatever their signs."""
        return [self.take_any() for _ in range(self.take_length())]

    def take_numbers(self):
        """Return the list of a sequence of integers that must be 0 or greater."""
        return [self.take_number() for _ in range(self.take_length())]

    def take_end(self):
        """Make sure that no integer is left over."""
        if self.taken < len(self.integers):
            raise InvalidText()


def put_sequence(out, integers):
    """Append a sequence of integers to the integers of a thing."""
    out.append(len(integers))
    out.extend(integers)
